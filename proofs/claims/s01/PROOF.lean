import PyProof.Rows.All
import Wide.All
import OpenK.AllK
import Wide.FinOn
import Open.SpecLaws
import KE.OsGo
import HandS.ForSpec
import KE.KDictCopyH
import KE.KDictSum
import KE.DataFind
import HandS.Dict
import HandS.WordsDict
import HandS.Comp
import HandS.Iter
import HandS.Deep
import HandS.TupAny
import HandS.DictTup
import HandS.Conv
import HandS.More
import HandS.TupLen
import PyProof.AutoSeq1
import HandS.Strs
import HandS.TupSets
import HandS.Walk
import HandS.Evl
import HandS.SetFor
import PySem.Challenge.RW_dominotable_s01_answers
set_option Elab.async false
set_option linter.all false
set_option maxRecDepth 100000
set_option maxHeartbeats 2000000
/-! ## DmCount -/
/-! The table of the specification counts the ways. -/
namespace Dm
open Kg86
set_option autoImplicit false

/-- the digits of a place of the table -/
def dig : List Nat → Nat → List Nat
  | [], _ => []
  | c :: cs, i => i % (c + 1) :: dig cs (i / (c + 1))
def size : List Nat → Nat
  | [] => 1
  | c :: cs => (c + 1) * size cs
/-- how far apart places lie, from 1 on -/
def far : List Nat → Nat → Nat
  | [], _ => 1
  | _ :: _, 0 => 1
  | c :: cs, k + 1 => (c + 1) * far cs k

theorem foldl_size : ∀ (caps : List Nat) (n : Nat), caps.foldl (fun n c => n * (c + 1)) n = n * size caps
  | [], n => by simp [size]
  | c :: cs, n => by
    rw [List.foldl_cons, foldl_size cs, size, Nat.mul_assoc]
theorem sizes_eq (caps : List Nat) : sizes caps = size caps := by
  unfold sizes
  rw [foldl_size, Nat.one_mul]
theorem size_pos : ∀ caps : List Nat, 0 < size caps
  | [] => by decide
  | c :: cs => by
    unfold size
    exact Nat.mul_pos (Nat.succ_pos c) (size_pos cs)
theorem strides_get : ∀ (caps : List Nat) (n k : Nat), k < caps.length → (strides n caps).getD k 1 = n * far caps k
  | [], _, k, h => absurd h (Nat.not_lt_zero k)
  | c :: cs, n, 0, _ => by simp [strides, far]
  | c :: cs, n, k + 1, h => by
    have h' : k < cs.length := by simpa using h
    rw [strides, far, List.getD_cons_succ, strides_get cs _ k h', Nat.mul_assoc]
theorem strides_len : ∀ (caps : List Nat) (n : Nat), (strides n caps).length = caps.length
  | [], _ => rfl
  | c :: cs, n => by rw [strides, List.length_cons, List.length_cons, strides_len cs]
theorem getD_out {α : Type} (l : List α) (k : Nat) (d : α) (h : l.length ≤ k) : l.getD k d = d := by
  rw [List.getD_eq_getElem?_getD, List.getElem?_eq_none h]
  rfl
theorem dig_len : ∀ (caps : List Nat) (i : Nat), (dig caps i).length = caps.length
  | [], _ => rfl
  | c :: cs, i => by rw [dig, List.length_cons, List.length_cons, dig_len cs]
theorem dig_get : ∀ (caps : List Nat) (i k : Nat), k < caps.length → (dig caps i).getD k 0 = i / far caps k % (caps.getD k 0 + 1)
  | [], _, k, h => absurd h (Nat.not_lt_zero k)
  | c :: cs, i, 0, _ => by simp [dig, far]
  | c :: cs, i, k + 1, h => by
    have h' : k < cs.length := by simpa using h
    rw [dig, far, List.getD_cons_succ, List.getD_cons_succ, dig_get cs _ k h', Nat.div_div_eq_div_mul]
/-- the place one to the left by a digit -/
theorem dig_sub : ∀ (caps : List Nat) (i k : Nat), k < caps.length → 0 < (dig caps i).getD k 0 → far caps k ≤ i ∧ dig caps (i - far caps k) = (dig caps i).set k ((dig caps i).getD k 0 - 1)
  | [], _, k, h, _ => absurd h (Nat.not_lt_zero k)
  | c :: cs, i, 0, _, hp => by
    have hp' : 0 < i % (c + 1) := by simpa [dig] using hp
    have h1 : 1 ≤ i := by
      apply Nat.pos_of_ne_zero
      intro e
      rw [e, Nat.zero_mod] at hp'
      exact Nat.lt_irrefl _ hp'
    have hd : i = (c + 1) * (i / (c + 1)) + i % (c + 1) := (Nat.div_add_mod i (c + 1)).symm
    have hl : i % (c + 1) < c + 1 := Nat.mod_lt _ (Nat.succ_pos c)
    have key : i - 1 = (i % (c + 1) - 1) + (c + 1) * (i / (c + 1)) := by omega
    have e1 : (i - 1) % (c + 1) = i % (c + 1) - 1 := by
      rw [key, Nat.add_mul_mod_self_left, Nat.mod_eq_of_lt (by omega)]
    have e2 : (i - 1) / (c + 1) = i / (c + 1) := by
      rw [key, Nat.add_mul_div_left _ _ (Nat.succ_pos c), Nat.div_eq_of_lt (by omega), Nat.zero_add]
    refine ⟨h1, ?_⟩
    show dig (c :: cs) (i - 1) = _
    simp only [dig, e1, e2, List.getD_cons_zero, List.set_cons_zero]
  | c :: cs, i, k + 1, h, hp => by
    have h' : k < cs.length := by simpa using h
    have hp' : 0 < (dig cs (i / (c + 1))).getD k 0 := by simpa [dig] using hp
    obtain ⟨hle, heq⟩ := dig_sub cs (i / (c + 1)) k h' hp'
    have hm : (c + 1) * far cs k ≤ (c + 1) * (i / (c + 1)) := Nat.mul_le_mul_left _ hle
    have hd : i = (c + 1) * (i / (c + 1)) + i % (c + 1) := (Nat.div_add_mod i (c + 1)).symm
    have hl : i % (c + 1) < c + 1 := Nat.mod_lt _ (Nat.succ_pos c)
    have key : i - (c + 1) * far cs k = i % (c + 1) + (c + 1) * (i / (c + 1) - far cs k) := by
      rw [Nat.mul_sub]
      omega
    have e1 : (i - (c + 1) * far cs k) % (c + 1) = i % (c + 1) := by
      rw [key, Nat.add_mul_mod_self_left, Nat.mod_mod]
    have e2 : (i - (c + 1) * far cs k) / (c + 1) = i / (c + 1) - far cs k := by
      rw [key, Nat.add_mul_div_left _ _ (Nat.succ_pos c), Nat.div_eq_of_lt hl, Nat.zero_add]
    refine ⟨by rw [far]; omega, ?_⟩
    rw [far]
    simp only [dig, e1, e2, heq, List.getD_cons_succ, List.set_cons_succ]
theorem dig_zero : ∀ (caps : List Nat) (i : Nat), i < size caps → ((dig caps i).all (fun n => n == 0) = true ↔ i = 0)
  | [], i, h => by
    have : i = 0 := by
      unfold size at h
      omega
    simp [dig, this]
  | c :: cs, i, h => by
    have hs : i / (c + 1) < size cs := by
      rw [Nat.div_lt_iff_lt_mul (Nat.succ_pos c), Nat.mul_comm]
      exact h
    have ih := dig_zero cs (i / (c + 1)) hs
    have hd : i = (c + 1) * (i / (c + 1)) + i % (c + 1) := (Nat.div_add_mod i (c + 1)).symm
    rw [dig, List.all_cons, Bool.and_eq_true, ih, beq_iff_eq]
    constructor
    · rintro ⟨a, b⟩
      rw [a, b] at hd
      simpa using hd
    · intro e
      subst e
      simp
theorem dig_last : ∀ caps : List Nat, dig caps (size caps - 1) = caps
  | [] => rfl
  | c :: cs => by
    have hp := size_pos cs
    have key : (c + 1) * size cs - 1 = c + (c + 1) * (size cs - 1) := by
      rw [Nat.mul_sub, Nat.mul_one]
      have : c + 1 ≤ (c + 1) * size cs := Nat.le_mul_of_pos_right _ hp
      omega
    rw [size, dig, key, Nat.add_mul_mod_self_left, Nat.mod_eq_of_lt (Nat.lt_succ_self c), Nat.add_mul_div_left _ _ (Nat.succ_pos c),
      Nat.div_eq_of_lt (Nat.lt_succ_self c), Nat.zero_add, dig_last cs]

/-- a table told by what stands at its places -/
def tableOf (caps : List Nat) (f : Nat → Nat) : Array Nat := (Array.range (sizes caps)).map f
theorem table_get (caps : List Nat) (f : Nat → Nat) (i : Nat) (h : i < size caps) : (tableOf caps f).getD i 0 = f i := by
  unfold tableOf
  rw [Array.getD_eq_getD_getElem?, Array.getElem?_map, Array.getElem?_range, sizes_eq, if_pos h]
  rfl
theorem table_ext (caps : List Nat) (f g : Nat → Nat) (h : ∀ i, i < size caps → f i = g i) : tableOf caps f = tableOf caps g := by
  unfold tableOf
  apply Array.ext
  · simp
  · intro i h1 h2
    have hi : i < size caps := by simpa [sizes_eq] using h1
    simp [h i hi]
theorem step_is (caps : List Nat) (l : List (List Nat)) (o : List Nat) :
    stepTable caps (strides 1 caps) o (tableOf caps fun i => ways l (dig caps i)) = tableOf caps fun i => ways (o :: l) (dig caps i) := by
  show tableOf caps _ = _
  apply table_ext
  intro i hi
  show _ = (o.map fun k => if 0 < (dig caps i).getD k 0 then ways l ((dig caps i).set k ((dig caps i).getD k 0 - 1)) else 0).sum
  congr 1
  apply List.map_congr_left
  intro k _
  show (if 0 < i / (strides 1 caps).getD k 1 % (caps.getD k 0 + 1) then _ else 0) = _
  by_cases hk : k < caps.length
  · rw [strides_get caps 1 k hk, Nat.one_mul, ← dig_get caps i k hk]
    by_cases hp : 0 < (dig caps i).getD k 0
    · rw [if_pos hp, if_pos hp]
      obtain ⟨hle, heq⟩ := dig_sub caps i k hk hp
      rw [table_get caps _ _ (by omega), heq]
    · rw [if_neg hp, if_neg hp]
  · have hk' : caps.length ≤ k := Nat.le_of_not_lt hk
    rw [getD_out caps k 0 hk', getD_out (dig caps i) k 0 (by rw [dig_len]; exact hk'), if_neg (by omega), if_neg (by omega)]
theorem tables (caps : List Nat) : ∀ l : List (List Nat),
    l.foldr (fun o t => stepTable caps (strides 1 caps) o t) (tableOf caps fun i => if i = 0 then 1 else 0) = tableOf caps fun i => ways l (dig caps i)
  | [] => by
    rw [List.foldr_nil]
    apply table_ext
    intro i hi
    show _ = if (dig caps i).all (fun n => n == 0) = true then 1 else 0
    by_cases e : i = 0
    · rw [if_pos e, if_pos ((dig_zero caps i hi).mpr e)]
    · rw [if_neg e, if_neg (fun h => e ((dig_zero caps i hi).mp h))]
  | o :: l => by
    rw [List.foldr_cons, tables caps l, step_is]
/-- **the table counts the ways** -/
theorem counted_ways (l : List (List Nat)) (caps : List Nat) : counted l caps = ways l caps := by
  show ((l.foldr (fun o t => stepTable caps (strides 1 caps) o t) (tableOf caps fun i => if i = 0 then 1 else 0)).getD (sizes caps - 1) 0) = _
  rw [tables, sizes_eq, table_get _ _ _ (by have := size_pos caps; omega), dig_last]
end Dm
/-! ## DmWays -/
/-! Ways counted forwards, by a table of the room left. -/
namespace Dm
open Kg86
set_option autoImplicit false

abbrev Tab := List (List Nat × Nat)
def getT (d : Tab) (k : List Nat) : Option Nat := (d.find? fun kv => decide (kv.1 = k)).map (·.2)
def putT (d : Tab) (k : List Nat) (v : Nat) : Tab :=
  if (d.any fun kv => decide (kv.1 = k)) = true then d.map (fun kv => if kv.1 = k then (kv.1, v) else kv) else d ++ [(k, v)]
/-- one room, one place -/
def dealPlace (room : List Nat) (w : Nat) (after : Tab) (k : Nat) : Tab :=
  if 0 < room.getD k 0 then putT after (room.set k (room.getD k 0 - 1)) ((getT after (room.set k (room.getD k 0 - 1))).getD 0 + w) else after
def dealRoom (places : List Nat) (after : Tab) (e : List Nat × Nat) : Tab := places.foldl (dealPlace e.1 e.2) after
def dealOne (ways : Tab) (places : List Nat) : Tab := ways.foldl (dealRoom places) []
def dealAll (choices : List (List Nat)) (room : List Nat) : Tab := choices.foldl dealOne [(room, 1)]
def count (choices : List (List Nat)) (room : List Nat) : Nat := ((dealAll choices room).map (·.2)).sum

def keys (d : Tab) : List (List Nat) := d.map (·.1)
/-- a table weighed -/
def weigh (f : List Nat → Nat) (d : Tab) : Nat := (d.map fun e => e.2 * f e.1).sum

theorem getT_none {d : Tab} {k : List Nat} (h : k ∉ keys d) : getT d k = none := by
  unfold getT
  rw [List.find?_eq_none.mpr fun e he => ?_]
  · rfl
  · simp only [decide_eq_true_eq]
    intro q
    exact h (List.mem_map.mpr ⟨e, he, q⟩)
theorem any_key {d : Tab} {k : List Nat} : (d.any fun kv => decide (kv.1 = k)) = true ↔ k ∈ keys d := by
  rw [List.any_eq_true]
  constructor
  · rintro ⟨e, he, q⟩
    exact List.mem_map.mpr ⟨e, he, of_decide_eq_true q⟩
  · intro h
    obtain ⟨e, he, q⟩ := List.mem_map.mp h
    exact ⟨e, he, decide_eq_true q⟩
theorem keys_put (d : Tab) (k : List Nat) (v : Nat) : keys (putT d k v) = if k ∈ keys d then keys d else keys d ++ [k] := by
  unfold putT
  by_cases h : k ∈ keys d
  · rw [if_pos (any_key.mpr h), if_pos h]
    unfold keys
    rw [List.map_map]
    apply List.map_congr_left
    intro e _
    show (if e.1 = k then (e.1, v) else e).1 = e.1
    split <;> rfl
  · rw [if_neg (fun q => h (any_key.mp q)), if_neg h]
    simp [keys]
theorem nodup_put {d : Tab} {k : List Nat} {v : Nat} (h : (keys d).Nodup) : (keys (putT d k v)).Nodup := by
  rw [keys_put]
  split
  · exact h
  · rename_i hk
    rw [List.nodup_append]
    refine ⟨h, by simp, ?_⟩
    intro a ha b hb e
    rw [List.mem_singleton] at hb
    subst hb
    subst e
    exact hk ha
theorem weigh_map (f : List Nat → Nat) (k : List Nat) (w : Nat) : ∀ d : Tab, (keys d).Nodup → k ∈ keys d →
    weigh f (d.map fun kv => if kv.1 = k then (kv.1, (getT d k).getD 0 + w) else kv) = weigh f d + w * f k
  | [], _, h => absurd h (by simp [keys])
  | e :: r, hn, h => by
    have hn' : e.1 ∉ keys r ∧ (keys r).Nodup := List.nodup_cons.mp hn
    by_cases q : e.1 = k
    · have g : getT (e :: r) k = some e.2 := by simp [getT, List.find?_cons, q]
      have same : r.map (fun kv => if kv.1 = k then (kv.1, (some e.2).getD 0 + w) else kv) = r := by
        have : r.map (fun kv => if kv.1 = k then (kv.1, (some e.2).getD 0 + w) else kv) = r.map id := by
          apply List.map_congr_left
          intro x hx
          rw [if_neg]
          · rfl
          · intro z
            exact hn'.1 (List.mem_map.mpr ⟨x, hx, z.trans q.symm⟩)
        rw [this, List.map_id]
      rw [g, List.map_cons, same, if_pos q]
      simp only [weigh, List.map_cons, List.sum_cons, Option.getD_some, q, Nat.add_mul]
      omega
    · have g : getT (e :: r) k = getT r k := by simp [getT, List.find?_cons, q]
      have hk : k ∈ keys r := by
        rcases List.mem_cons.mp (show k ∈ e.1 :: keys r from h) with z | z
        · exact absurd z.symm q
        · exact z
      have ih := weigh_map f k w r hn'.2 hk
      rw [g, List.map_cons, if_neg q]
      simp only [weigh, List.map_cons, List.sum_cons] at ih ⊢
      omega
theorem weigh_put (f : List Nat → Nat) (d : Tab) (k : List Nat) (w : Nat) (hn : (keys d).Nodup) :
    weigh f (putT d k ((getT d k).getD 0 + w)) = weigh f d + w * f k := by
  by_cases h : k ∈ keys d
  · unfold putT
    rw [if_pos (any_key.mpr h)]
    exact weigh_map f k w d hn h
  · unfold putT
    rw [if_neg (fun q => h (any_key.mp q)), getT_none h]
    simp [weigh]
theorem dealPlace_keys {room : List Nat} {w k : Nat} {after : Tab} (h : (keys after).Nodup) : (keys (dealPlace room w after k)).Nodup := by
  unfold dealPlace
  split
  · exact nodup_put h
  · exact h
theorem dealRoom_keys {e : List Nat × Nat} : ∀ (places : List Nat) {after : Tab}, (keys after).Nodup → (keys (dealRoom places after e)).Nodup
  | [], _, h => h
  | k :: r, _, h => dealRoom_keys r (dealPlace_keys h)
theorem dealOne_keys' (places : List Nat) : ∀ (ways after : Tab), (keys after).Nodup → (keys (ways.foldl (dealRoom places) after)).Nodup
  | [], _, h => h
  | e :: r, _, h => dealOne_keys' places r _ (dealRoom_keys places h)
theorem dealOne_keys (ways : Tab) (places : List Nat) : (keys (dealOne ways places)).Nodup := dealOne_keys' places ways [] List.nodup_nil
theorem weigh_place (f : List Nat → Nat) (room : List Nat) (w k : Nat) (after : Tab) (h : (keys after).Nodup) :
    weigh f (dealPlace room w after k) = weigh f after + w * (if 0 < room.getD k 0 then f (room.set k (room.getD k 0 - 1)) else 0) := by
  unfold dealPlace
  split
  · exact weigh_put f after _ w h
  · simp
theorem weigh_room (f : List Nat → Nat) (room : List Nat) (w : Nat) : ∀ (places : List Nat) (after : Tab), (keys after).Nodup →
    weigh f (dealRoom places after (room, w)) = weigh f after + w * (places.map fun k => if 0 < room.getD k 0 then f (room.set k (room.getD k 0 - 1)) else 0).sum
  | [], after, _ => by simp [dealRoom]
  | k :: r, after, h => by
    show weigh f (dealRoom r (dealPlace room w after k) (room, w)) = _
    rw [weigh_room f room w r _ (dealPlace_keys h), weigh_place f room w k after h, List.map_cons, List.sum_cons, Nat.mul_add]
    omega
theorem weigh_one' (l : List (List Nat)) (places : List Nat) : ∀ (ws after : Tab), (keys after).Nodup →
    weigh (ways l) (ws.foldl (dealRoom places) after) = weigh (ways l) after + weigh (ways (places :: l)) ws
  | [], after, _ => by simp [weigh]
  | e :: r, after, h => by
    rw [List.foldl_cons, weigh_one' l places r _ (dealRoom_keys places h), weigh_room (ways l) e.1 e.2 places after h]
    show _ = weigh (ways l) after + ((e.2 * ways (places :: l) e.1) + weigh (ways (places :: l)) r)
    have : ways (places :: l) e.1 = (places.map fun k => if 0 < e.1.getD k 0 then ways l (e.1.set k (e.1.getD k 0 - 1)) else 0).sum := rfl
    rw [this]
    omega
theorem weigh_one (l : List (List Nat)) (places : List Nat) (ws : Tab) : weigh (ways l) (dealOne ws places) = weigh (ways (places :: l)) ws := by
  unfold dealOne
  rw [weigh_one' l places ws [] List.nodup_nil]
  simp [weigh]
theorem weigh_all : ∀ (choices : List (List Nat)) (ws : Tab), weigh (ways []) (choices.foldl dealOne ws) = weigh (ways choices) ws
  | [], _ => rfl
  | o :: l, ws => by
    rw [List.foldl_cons, weigh_all l, weigh_one]

/-! ### the rooms of a table: within the first room, of one sum -/
def Below (caps k : List Nat) : Prop := k.length = caps.length ∧ ∀ i, k.getD i 0 ≤ caps.getD i 0
def Good (caps : List Nat) (n : Nat) (d : Tab) : Prop := ∀ k ∈ keys d, Below caps k ∧ k.sum = n
theorem sum_set : ∀ (l : List Nat) (k : Nat), 0 < l.getD k 0 → (l.set k (l.getD k 0 - 1)).sum + 1 = l.sum
  | [], k, h => by simp at h
  | a :: r, 0, h => by
    simp only [List.getD_cons_zero] at h
    simp only [List.set_cons_zero, List.getD_cons_zero, List.sum_cons]
    omega
  | a :: r, k + 1, h => by
    simp only [List.getD_cons_succ] at h
    have ih := sum_set r k h
    simp only [List.set_cons_succ, List.getD_cons_succ, List.sum_cons]
    omega
theorem below_set {caps k : List Nat} (i : Nat) (h : Below caps k) : Below caps (k.set i (k.getD i 0 - 1)) := by
  refine ⟨by rw [List.length_set]; exact h.1, fun j => ?_⟩
  have hj := h.2 j
  rw [List.getD_eq_getElem?_getD, List.getElem?_set]
  by_cases e : i = j
  · subst e
    rw [if_pos rfl]
    split
    · show k.getD i 0 - 1 ≤ _
      omega
    · exact Nat.zero_le _
  · rw [if_neg e, ← List.getD_eq_getElem?_getD]
    exact hj
theorem good_put {caps : List Nat} {n : Nat} {d : Tab} {k : List Nat} {v : Nat} (h : Good caps n d) (hk : Below caps k ∧ k.sum = n) : Good caps n (putT d k v) := by
  intro j hj
  rw [keys_put] at hj
  split at hj
  · exact h j hj
  · rcases List.mem_append.mp hj with z | z
    · exact h j z
    · rw [List.mem_singleton.mp z]
      exact hk
theorem good_place {caps room : List Nat} {n w k : Nat} {after : Tab} (hr : Below caps room ∧ room.sum = n + 1) (h : Good caps n after) : Good caps n (dealPlace room w after k) := by
  unfold dealPlace
  split
  · rename_i hp
    refine good_put h ⟨below_set k hr.1, ?_⟩
    have := sum_set room k hp
    omega
  · exact h
theorem good_room {caps : List Nat} {n : Nat} {e : List Nat × Nat} (hr : Below caps e.1 ∧ e.1.sum = n + 1) : ∀ (places : List Nat) {after : Tab}, Good caps n after → Good caps n (dealRoom places after e)
  | [], _, h => h
  | _ :: r, _, h => good_room hr r (good_place hr h)
theorem good_one' {caps : List Nat} {n : Nat} (places : List Nat) : ∀ (ws : Tab), Good caps (n + 1) ws → ∀ after : Tab, Good caps n after → Good caps n (ws.foldl (dealRoom places) after)
  | [], _, _, h => h
  | e :: r, hw, _, h => good_one' places r (fun k hk => hw k (List.mem_cons.mpr (.inr hk))) _ (good_room (hw e.1 (List.mem_cons.mpr (.inl rfl))) places h)
theorem good_one {caps : List Nat} {n : Nat} {ws : Tab} (places : List Nat) (h : Good caps (n + 1) ws) : Good caps n (dealOne ws places) :=
  good_one' places ws h [] fun _ hk => absurd hk (by simp [keys])
theorem good_all {caps : List Nat} : ∀ (choices : List (List Nat)) (n : Nat) (ws : Tab), Good caps (n + choices.length) ws → Good caps n (choices.foldl dealOne ws)
  | [], _, _, h => h
  | o :: l, n, ws, h => good_all l n (dealOne ws o) (good_one o (by
    have e : n + (o :: l).length = n + l.length + 1 := by simp [Nat.add_assoc]
    rw [e] at h
    exact h))
theorem good_start {caps : List Nat} (n : Nat) (h : caps.sum = n) : Good caps n [(caps, 1)] := by
  intro k hk
  have e : k = caps := by simpa [keys] using hk
  subst e
  exact ⟨⟨rfl, fun _ => Nat.le_refl _⟩, h⟩
theorem all_zero : ∀ k : List Nat, k.sum = 0 → k.all (fun n => n == 0) = true
  | [], _ => rfl
  | a :: r, h => by
    rw [List.sum_cons] at h
    rw [List.all_cons, all_zero r (by omega), Bool.and_true, beq_iff_eq]
    omega
theorem weigh_flat : ∀ d : Tab, (∀ k ∈ keys d, k.sum = 0) → weigh (ways []) d = (d.map (·.2)).sum
  | [], _ => rfl
  | e :: r, h => by
    have e1 : ways [] e.1 = 1 := if_pos (all_zero e.1 (h e.1 (List.mem_cons.mpr (.inl rfl))))
    have ih := weigh_flat r fun k hk => h k (List.mem_cons.mpr (.inr hk))
    simp only [weigh, List.map_cons, List.sum_cons] at ih ⊢
    rw [e1, ih, Nat.mul_one]
/-- **the count forwards is the ways** -/
theorem count_ways (choices : List (List Nat)) (room : List Nat) (h : room.sum = choices.length) : count choices room = ways choices room := by
  unfold count dealAll
  have g : Good room 0 (choices.foldl dealOne [(room, 1)]) := good_all choices 0 _ (good_start _ (by omega))
  rw [← weigh_flat _ fun k hk => (g k hk).2, weigh_all]
  simp [weigh]

/-! ### how long a table is -/
def codeOf : List Nat → List Nat → Nat
  | c :: cs, k :: ks => k + (c + 1) * codeOf cs ks
  | _, _ => 0
theorem below_cons {c k : Nat} {cs ks : List Nat} (h : Below (c :: cs) (k :: ks)) : k ≤ c ∧ Below cs ks := by
  refine ⟨by simpa using h.2 0, by simpa using h.1, fun i => by simpa using h.2 (i + 1)⟩
theorem code_lt : ∀ (caps k : List Nat), Below caps k → codeOf caps k < size caps
  | [], k, h => by
    have : k = [] := List.eq_nil_of_length_eq_zero (by simpa using h.1)
    subst this
    decide
  | c :: cs, [], h => absurd h.1 (by simp)
  | c :: cs, k :: ks, h => by
    obtain ⟨h1, h2⟩ := below_cons h
    have ih := code_lt cs ks h2
    show k + (c + 1) * codeOf cs ks < (c + 1) * size cs
    have : (c + 1) * (codeOf cs ks + 1) ≤ (c + 1) * size cs := Nat.mul_le_mul_left _ ih
    rw [Nat.mul_add, Nat.mul_one] at this
    omega
theorem code_inj : ∀ (caps k j : List Nat), Below caps k → Below caps j → codeOf caps k = codeOf caps j → k = j
  | [], k, j, h, g, _ => by
    rw [List.eq_nil_of_length_eq_zero (show k.length = 0 by simpa using h.1), List.eq_nil_of_length_eq_zero (show j.length = 0 by simpa using g.1)]
  | c :: cs, [], _, h, _, _ => absurd h.1 (by simp)
  | c :: cs, _ :: _, [], _, g, _ => absurd g.1 (by simp)
  | c :: cs, k :: ks, j :: js, h, g, e => by
    obtain ⟨h1, h2⟩ := below_cons h
    obtain ⟨g1, g2⟩ := below_cons g
    have e' : k + (c + 1) * codeOf cs ks = j + (c + 1) * codeOf cs js := e
    have m1 : (k + (c + 1) * codeOf cs ks) % (c + 1) = k := by rw [Nat.add_mul_mod_self_left, Nat.mod_eq_of_lt (by omega)]
    have m2 : (j + (c + 1) * codeOf cs js) % (c + 1) = j := by rw [Nat.add_mul_mod_self_left, Nat.mod_eq_of_lt (by omega)]
    have ek : k = j := by rw [← m1, e', m2]
    subst ek
    have e3 : (c + 1) * codeOf cs ks = (c + 1) * codeOf cs js := by omega
    have e2 : codeOf cs ks = codeOf cs js := Nat.eq_of_mul_eq_mul_left (Nat.succ_pos c) e3
    rw [code_inj cs ks js h2 g2 e2]
theorem nodup_short : ∀ (n : Nat) (l : List Nat), l.Nodup → (∀ x ∈ l, x < n) → l.length ≤ n
  | 0, l, _, h => by
    cases l with
    | nil => exact Nat.le_refl _
    | cons a r => exact absurd (h a (List.mem_cons.mpr (.inl rfl))) (Nat.not_lt_zero _)
  | n + 1, l, hn, h => by
    have h1 : (l.erase n).Nodup := hn.erase n
    have h2 : ∀ x ∈ l.erase n, x < n := fun x hx => by
      obtain ⟨a, b⟩ := (List.Nodup.mem_erase_iff hn).mp hx
      have := h x b
      omega
    have ih := nodup_short n _ h1 h2
    rw [List.length_erase] at ih
    split at ih <;> omega
theorem tab_short {caps : List Nat} {n : Nat} {d : Tab} (hn : (keys d).Nodup) (h : Good caps n d) : d.length ≤ size caps := by
  have e : ((keys d).map (codeOf caps)).length = d.length := by rw [List.length_map]; exact List.length_map _
  rw [← e]
  refine nodup_short _ _ ?_ ?_
  · rw [List.nodup_iff_pairwise_ne, List.pairwise_map]
    refine List.Pairwise.imp_of_mem ?_ (List.nodup_iff_pairwise_ne.mp hn)
    intro a b ha hb ne q
    exact ne (code_inj caps a b (h a ha).1 (h b hb).1 q)
  · intro x hx
    obtain ⟨k, hk, rfl⟩ := List.mem_map.mp hx
    exact code_lt caps k (h k hk).1
end Dm
/-! ## DmPerm -/
/-! Ways do not mind the order of the tiles. -/
namespace Dm
open Kg86
set_option autoImplicit false

theorem sum_comm {A B : Type} (f : A → B → Nat) (m : List B) : ∀ l : List A, (l.map fun x => (m.map fun y => f x y).sum).sum = (m.map fun y => (l.map fun x => f x y).sum).sum
  | [] => by
    have : (m.map fun _ => (0 : Nat)).sum = 0 := by
      induction m with
      | nil => rfl
      | cons a r ih => rw [List.map_cons, List.sum_cons, ih]
    simpa using this.symm
  | x :: r => by
    have add : ∀ (g h : B → Nat) (n : List B), (n.map g).sum + (n.map h).sum = (n.map fun y => g y + h y).sum := by
      intro g h n
      induction n with
      | nil => rfl
      | cons a q ih =>
        rw [List.map_cons, List.map_cons, List.map_cons, List.sum_cons, List.sum_cons, List.sum_cons, ← ih]
        omega
    rw [List.map_cons, List.sum_cons, sum_comm f m r, add]
    congr 1

def dec (caps : List Nat) (k : Nat) : List Nat := caps.set k (caps.getD k 0 - 1)
theorem getD_dec (caps : List Nat) (k j : Nat) : (dec caps k).getD j 0 = if j = k then caps.getD k 0 - 1 else caps.getD j 0 := by
  unfold dec
  rw [List.getD_eq_getElem?_getD, List.getElem?_set]
  by_cases e : k = j
  · subst e
    rw [if_pos rfl, if_pos rfl]
    split
    · rfl
    · rename_i h
      rw [getD_out caps k 0 (Nat.le_of_not_lt h)]
      rfl
  · rw [if_neg e, if_neg (fun z => e z.symm), ← List.getD_eq_getElem?_getD]
theorem dec_comm (caps : List Nat) (k j : Nat) : dec (dec caps k) j = dec (dec caps j) k := by
  by_cases e : k = j
  · subst e
    rfl
  · have h1 : (dec caps k).getD j 0 = caps.getD j 0 := by rw [getD_dec, if_neg (fun z => e z.symm)]
    have h2 : (dec caps j).getD k 0 = caps.getD k 0 := by rw [getD_dec, if_neg e]
    show (dec caps k).set j ((dec caps k).getD j 0 - 1) = (dec caps j).set k ((dec caps j).getD k 0 - 1)
    rw [h1, h2]
    unfold dec
    exact List.set_comm _ _ e
theorem ways_cons (o : List Nat) (l : List (List Nat)) (caps : List Nat) :
    ways (o :: l) caps = (o.map fun k => if 0 < caps.getD k 0 then ways l (dec caps k) else 0).sum := rfl
theorem ways_two (a b : List Nat) (l : List (List Nat)) (caps : List Nat) :
    ways (a :: b :: l) caps = (a.map fun k => (b.map fun j => if 0 < caps.getD k 0 ∧ 0 < (dec caps k).getD j 0 then ways l (dec (dec caps k) j) else 0).sum).sum := by
  rw [ways_cons]
  congr 1
  apply List.map_congr_left
  intro k _
  by_cases h : 0 < caps.getD k 0
  · rw [if_pos h, ways_cons]
    congr 1
    apply List.map_congr_left
    intro j _
    by_cases g : 0 < (dec caps k).getD j 0
    · rw [if_pos g, if_pos ⟨h, g⟩]
    · rw [if_neg g, if_neg (fun z => g z.2)]
  · rw [if_neg h]
    have : (b.map fun j => if 0 < caps.getD k 0 ∧ 0 < (dec caps k).getD j 0 then ways l (dec (dec caps k) j) else 0) = b.map fun _ => 0 := by
      apply List.map_congr_left
      intro j _
      rw [if_neg (fun z => h z.1)]
    rw [this]
    clear this
    induction b with
    | nil => rfl
    | cons x r ih => rw [List.map_cons, List.sum_cons, ← ih]
theorem ways_swap (a b : List Nat) (l : List (List Nat)) (caps : List Nat) : ways (a :: b :: l) caps = ways (b :: a :: l) caps := by
  rw [ways_two, ways_two, sum_comm]
  congr 1
  apply List.map_congr_left
  intro j _
  congr 1
  apply List.map_congr_left
  intro k _
  have e : (0 < caps.getD k 0 ∧ 0 < (dec caps k).getD j 0) ↔ (0 < caps.getD j 0 ∧ 0 < (dec caps j).getD k 0) := by
    rw [getD_dec, getD_dec]
    by_cases q : j = k
    · subst q
      exact Iff.rfl
    · rw [if_neg q, if_neg (fun z => q z.symm)]
      exact And.comm
  by_cases h : 0 < caps.getD k 0 ∧ 0 < (dec caps k).getD j 0
  · rw [if_pos h, if_pos (e.mp h), dec_comm]
  · rw [if_neg h, if_neg (fun z => h (e.mpr z))]
theorem ways_under (o : List Nat) {l m : List (List Nat)} (h : ∀ caps, ways l caps = ways m caps) (caps : List Nat) : ways (o :: l) caps = ways (o :: m) caps := by
  rw [ways_cons, ways_cons]
  congr 1
  apply List.map_congr_left
  intro k _
  rw [h]
theorem ways_move (o : List Nat) (m : List (List Nat)) : ∀ (l : List (List Nat)) (caps : List Nat), ways (l ++ o :: m) caps = ways (o :: (l ++ m)) caps
  | [], _ => rfl
  | a :: l, caps => by
    rw [List.cons_append, ways_under a (ways_move o m l), ways_swap]
    rfl
theorem ways_known (k : Nat) (l m : List (List Nat)) (caps : List Nat) :
    ways (l ++ [k] :: m) caps = if 0 < caps.getD k 0 then ways (l ++ m) (dec caps k) else 0 := by
  rw [ways_move, ways_cons]
  simp
theorem ways_none (l m : List (List Nat)) (caps : List Nat) : ways (l ++ [] :: m) caps = 0 := by
  rw [ways_move, ways_cons]
  rfl
theorem ways_none_mem {l : List (List Nat)} (h : [] ∈ l) (caps : List Nat) : ways l caps = 0 := by
  obtain ⟨a, b, rfl⟩ := List.append_of_mem h
  exact ways_none a b caps
theorem size_dec : ∀ (caps : List Nat) (k : Nat), size (dec caps k) ≤ size caps
  | [], k => by
    unfold dec
    rw [List.set_nil]
    exact Nat.le_refl _
  | c :: cs, 0 => by
    show (c - 1 + 1) * size cs ≤ (c + 1) * size cs
    exact Nat.mul_le_mul_right _ (by omega)
  | c :: cs, k + 1 => Nat.mul_le_mul_left _ (size_dec cs k)
theorem sum_dec (caps : List Nat) (k : Nat) (h : 0 < caps.getD k 0) : (dec caps k).sum + 1 = caps.sum := sum_set caps k h
theorem dec_length (caps : List Nat) (k : Nat) : (dec caps k).length = caps.length := List.length_set
end Dm
/-! ## DmState -/
/-! The specification's states: what always holds, and what a call does to the deals. -/
namespace Dm
open Kg86
set_option autoImplicit false

/-! ### tiles -/
theorem full_nodup {top : Nat} (h : top ≤ 6) : (full top).Nodup := by
  have : top = 0 ∨ top = 1 ∨ top = 2 ∨ top = 3 ∨ top = 4 ∨ top = 5 ∨ top = 6 := by omega
  rcases this with rfl | rfl | rfl | rfl | rfl | rfl | rfl <;> decide
theorem full_short {top : Nat} (h : top ≤ 6) : (full top).length ≤ 28 := by
  have : top = 0 ∨ top = 1 ∨ top = 2 ∨ top = 3 ∨ top = 4 ∨ top = 5 ∨ top = 6 := by omega
  rcases this with rfl | rfl | rfl | rfl | rfl | rfl | rfl <;> decide
theorem mem_full {top : Nat} {t : Tile} : t ∈ full top ↔ t.a ≤ t.b ∧ t.b ≤ top := by
  unfold full
  rw [List.mem_flatMap]
  constructor
  · rintro ⟨a, ha, h⟩
    obtain ⟨b, hb, rfl⟩ := List.mem_map.mp h
    obtain ⟨h1, h2⟩ := List.mem_filter.mp hb
    have := List.mem_range.mp h1
    have := of_decide_eq_true h2
    exact ⟨by assumption, by show b ≤ top; omega⟩
  · rintro ⟨h1, h2⟩
    refine ⟨t.a, List.mem_range.mpr (by omega), List.mem_map.mpr ⟨t.b, List.mem_filter.mpr ⟨List.mem_range.mpr (by omega), decide_eq_true h1⟩, rfl⟩⟩
theorem tile_self {t : Tile} (h : t.a ≤ t.b) : tile t.a t.b = t := by
  unfold tile
  rw [Nat.min_eq_left h, Nat.max_eq_right h]
theorem tile_comm (x y : Nat) : tile x y = tile y x := by
  unfold tile
  rw [Nat.min_comm, Nat.max_comm]

/-! ### what always holds while there is a round -/
structure Ok (s : State) : Prop where
  top : s.top ≤ 6
  few : 2 ≤ s.left.length ∧ s.left.length ≤ 4
  lacks : s.lacks.length = s.left.length
  who : s.who < s.left.length
  tiles : ∀ t ∈ s.onTable, t ∈ full s.top
  once : s.onTable.Nodup
  rest : s.left.sum ≤ s.unseen.length
  size : Dm.size s.caps ≤ 4096
  known : ∀ e ∈ s.known, e.1 ∈ s.unseen ∧ e.2 ≤ s.left.length
  knownOnce : (s.known.map (·.1)).Nodup
  lackRange : ∀ l ∈ s.lacks, ∀ n ∈ l, n ≤ 6
  lackOnce : ∀ l ∈ s.lacks, l.Nodup
  going : s.over = false → ∀ n ∈ s.left, 0 < n
  passes : s.passes ≤ s.left.length
  going2 : s.over = false → s.passes < s.left.length
  shownOnce : (s.shown.map (·.1)).Nodup
  shownIn : ∀ e ∈ s.shown, e.1 < s.left.length

theorem unseen_nodup {s : State} (h : s.top ≤ 6) : s.unseen.Nodup := (full_nodup h).filter _
theorem unseen_short {s : State} (h : s.top ≤ 6) : s.unseen.length ≤ 28 := Nat.le_trans (List.length_filter_le _ _) (full_short h)
theorem mem_unseen {s : State} {t : Tile} : t ∈ s.unseen ↔ t ∈ full s.top ∧ t ∉ s.onTable := by
  unfold State.unseen
  rw [List.mem_filter]
  simp
theorem Ok.rest_eq {s : State} (h : Ok s) : s.rest = s.unseen.length - s.left.sum := by
  unfold State.rest
  rw [if_neg]
  intro e
  have := h.few.1
  rw [e] at this
  simp at this
theorem Ok.sum {s : State} (h : Ok s) : s.caps.sum = s.unseen.length := by
  unfold State.caps
  rw [List.sum_append, h.rest_eq]
  have := h.rest
  simp
  omega
theorem caps_len (s : State) : s.caps.length = s.left.length + 1 := by simp [State.caps]
theorem deals_ways (s : State) : s.deals = ways (s.unseen.map s.owners) s.caps := counted_ways _ _
theorem Ok.deals_count {s : State} (h : Ok s) : s.deals = count (s.unseen.map s.owners) s.caps := by
  rw [deals_ways, count_ways]
  rw [h.sum, List.length_map]

/-! ### where a tile may be -/
/-- by passes alone -/
def byPasses (s : State) (t : Tile) : List Nat := (List.range (s.players + 1)).filter fun k => decide (k = s.players) || !((s.lacks.getD k []).contains t.a || (s.lacks.getD k []).contains t.b)
theorem owners_eq (s : State) (t : Tile) : s.owners t = match s.known.find? fun x => x.1 == t with
  | some x => [x.2]
  | none => byPasses s t := rfl
theorem owners_le {s : State} (h : Ok s) {t : Tile} {k : Nat} (hk : k ∈ s.owners t) : k ≤ s.left.length := by
  rw [owners_eq] at hk
  cases e : s.known.find? fun x => x.1 == t with
  | none =>
    rw [e] at hk
    have := List.mem_range.mp (List.mem_filter.mp hk).1
    exact Nat.lt_succ_iff.mp this
  | some x =>
    rw [e] at hk
    have : k = x.2 := List.mem_singleton.mp hk
    rw [this]
    exact (h.known x (List.mem_of_find?_eq_some e)).2
theorem owners_known {s : State} {t : Tile} {k : Nat} (ks : List (Tile × Nat)) (h : s.known.find? (fun x => x.1 == t) = some (t, k)) : s.owners t = [k] := by
  rw [owners_eq, h]
theorem owners_same {s u : State} {t : Tile} (hp : u.left.length = s.left.length) (hl : u.lacks = s.lacks)
    (hk : (u.known.find? fun x => x.1 == t).map (·.2) = (s.known.find? fun x => x.1 == t).map (·.2)) : u.owners t = s.owners t := by
  rw [owners_eq, owners_eq]
  have hb : byPasses u t = byPasses s t := by
    unfold byPasses State.players
    rw [hp, hl]
  cases e : u.known.find? fun x => x.1 == t with
  | none =>
    rw [e] at hk
    cases e2 : s.known.find? fun x => x.1 == t with
    | none => exact hb
    | some y => rw [e2] at hk; exact absurd hk (by simp)
  | some x =>
    rw [e] at hk
    cases e2 : s.known.find? fun x => x.1 == t with
    | none => rw [e2] at hk; exact absurd hk (by simp)
    | some y =>
      rw [e2] at hk
      have : x.2 = y.2 := by simpa using hk
      show [x.2] = [y.2]
      rw [this]

/-! ### a tile held at one place -/
/-- the choices with one tile held -/
def held (s : State) (t : Tile) (k : Nat) : List (List Nat) := s.unseen.map fun x => if x = t then [k] else s.owners x
theorem with_known (s : State) (t : Tile) (k : Nat) : (({ s with known := (t, k) :: s.known } : State).unseen.map ({ s with known := (t, k) :: s.known } : State).owners) = held s t k := by
  unfold held
  show s.unseen.map _ = _
  apply List.map_congr_left
  intro x _
  by_cases e : x = t
  · subst e
    rw [if_pos rfl, owners_eq]
    simp
  · rw [if_neg e]
    refine owners_same (s := s) (u := { s with known := (t, k) :: s.known }) rfl rfl ?_
    show ((((t, k) :: s.known).find? fun y => y.1 == x).map (·.2)) = _
    rw [List.find?_cons_of_neg]
    simpa using fun z => e z.symm
theorem dealsWith_eq (s : State) (t : Tile) (k : Nat) : s.dealsWith t k = if k ∈ s.owners t then ways (held s t k) s.caps else 0 := by
  unfold State.dealsWith
  simp only [List.contains_iff_mem]
  by_cases h : k ∈ s.owners t
  · rw [if_pos h, if_pos h, deals_ways, with_known]
    rfl
  · rw [if_neg h, if_neg h]
theorem Ok.dealsWith_count {s : State} (h : Ok s) (t : Tile) (k : Nat) : s.dealsWith t k = if k ∈ s.owners t then count (held s t k) s.caps else 0 := by
  rw [dealsWith_eq]
  split
  · rw [count_ways]
    rw [h.sum]
    unfold held
    rw [List.length_map]
  · rfl
theorem find_snoc {l : List (Tile × Nat)} {t x : Tile} {k : Nat} (h : (l.any fun z => z.1 == t) = false) :
    ((l ++ [(t, k)]).find? fun y => y.1 == x).map (·.2) = if x = t then some k else (l.find? fun y => y.1 == x).map (·.2) := by
  rw [List.find?_append]
  by_cases e : x = t
  · subst e
    have : l.find? (fun y => y.1 == x) = none := by
      rw [List.find?_eq_none]
      intro y hy q
      have := List.any_eq_false.mp h y hy
      exact this q
    rw [this, if_pos rfl]
    simp
  · rw [if_neg e]
    have : ([(t, k)] : List (Tile × Nat)).find? (fun y => y.1 == x) = none := by
      simp only [List.find?_singleton]
      rw [if_neg]
      simpa using fun z => e z.symm
    rw [this, Option.or_none]
/-- know: the deals behind the look -/
theorem deals_know {s : State} {t : Tile} {k : Nat} (h : (s.known.any fun z => z.1 == t) = false) :
    ({ s with known := s.known ++ [(t, k)] } : State).deals = ways (held s t k) s.caps := by
  rw [deals_ways]
  congr 1
  unfold held
  show s.unseen.map _ = _
  apply List.map_congr_left
  intro x _
  by_cases e : x = t
  · subst e
    rw [if_pos rfl, owners_eq]
    have f := find_snoc (x := x) (k := k) h
    rw [if_pos rfl] at f
    cases q : (s.known ++ [(x, k)]).find? (fun y => y.1 == x) with
    | none => rw [q] at f; exact absurd f (by simp)
    | some y =>
      rw [q] at f
      have : y.2 = k := by simpa using f
      show [y.2] = [k]
      rw [this]
  · rw [if_neg e]
    refine owners_same (s := s) (u := { s with known := s.known ++ [(t, k)] }) rfl rfl ?_
    have f := find_snoc (x := x) (k := k) h
    rw [if_neg e] at f
    exact f

/-! ### a tile is played -/
theorem erase_unseen {s u : State} {t : Tile} (h : s.top ≤ 6) (ht : u.top = s.top) (hon : ∀ x, x ∈ u.onTable ↔ x = t ∨ x ∈ s.onTable) : u.unseen = s.unseen.erase t := by
  rw [(unseen_nodup h).erase_eq_filter]
  unfold State.unseen
  rw [List.filter_filter, ht]
  apply List.filter_congr
  intro x _
  have := hon x
  by_cases e : x = t
  · subst e
    have : u.onTable.contains x = true := List.contains_iff_mem.mpr (this.mpr (.inl rfl))
    rw [this]
    simp
  · have q : u.onTable.contains x = s.onTable.contains x := by
      rw [Bool.eq_iff_iff, List.contains_iff_mem, List.contains_iff_mem, this]
      exact ⟨fun z => z.resolve_left e, .inr⟩
    rw [q]
    have : (x != t) = true := by simpa using e
    rw [this, Bool.true_and]
theorem find_filter (l : List (Tile × Nat)) {t x : Tile} (e : ¬ x = t) : (l.filter fun z => z.1 != t).find? (fun y => y.1 == x) = l.find? fun y => y.1 == x := by
  rw [List.find?_filter]
  congr 1
  funext y
  by_cases q : y.1 == x
  · have : y.1 = x := by simpa using q
    rw [this]
    have z : (x != t) = true := by simpa using e
    simp [z]
  · simp [q]
theorem sum_set_one : ∀ (l : List Nat) (k : Nat), 0 < l.getD k 0 → (l.set k (l.getD k 0 - 1)).sum = l.sum - 1 := fun l k h => by
  have := sum_set l k h
  omega
theorem mem_split {t : Tile} {l : List Tile} (h : t ∈ l) (hn : l.Nodup) : ∃ a b, l = a ++ t :: b ∧ l.erase t = a ++ b ∧ t ∉ a ∧ t ∉ b := by
  obtain ⟨a, b, rfl⟩ := List.append_of_mem h
  have h2 := List.nodup_append.mp hn
  have ha : t ∉ a := fun q => h2.2.2 t q t (List.mem_cons.mpr (.inl rfl)) rfl
  have hb : t ∉ b := (List.nodup_cons.mp h2.2.1).1
  refine ⟨a, b, rfl, ?_, ha, hb⟩
  rw [List.erase_append_right _ ha, List.erase_cons_head]
structure Played (s u : State) (t : Tile) : Prop where
  top : u.top = s.top
  on : ∀ x, x ∈ u.onTable ↔ x = t ∨ x ∈ s.onTable
  left : u.left = s.left.set s.who (s.left.getD s.who 0 - 1)
  lacks : u.lacks = s.lacks
  known : u.known = s.known.filter fun z => z.1 != t
theorem getD_caps {s : State} {k : Nat} (h : k < s.left.length) : s.caps.getD k 0 = s.left.getD k 0 := by
  unfold State.caps
  rw [List.getD_eq_getElem?_getD, List.getD_eq_getElem?_getD, List.getElem?_append_left h]
theorem Played.unseen {s u : State} {t : Tile} (p : Played s u t) (h : Ok s) : u.unseen = s.unseen.erase t := erase_unseen h.top p.top p.on
theorem Played.len {s u : State} {t : Tile} (p : Played s u t) : u.left.length = s.left.length := by rw [p.left, List.length_set]
theorem Played.rest {s u : State} {t : Tile} (p : Played s u t) (h : Ok s) (ht : t ∈ s.unseen) (hw : 0 < s.left.getD s.who 0) : u.rest = s.rest ∧ u.left.sum ≤ u.unseen.length := by
  have hu : u.left ≠ [] := by
    intro e
    have a := p.len
    have b := h.few.1
    rw [e] at a
    simp at a
    omega
  have e1 : u.rest = u.unseen.length - u.left.sum := by
    unfold State.rest
    rw [if_neg hu]
  have e2 : u.unseen.length = s.unseen.length - 1 := by
    rw [p.unseen h, List.length_erase_of_mem ht]
  have e3 : u.left.sum = s.left.sum - 1 := by rw [p.left, sum_set_one _ _ hw]
  have e4 : 0 < s.left.sum := by
    have := sum_set s.left s.who hw
    omega
  have := h.rest
  rw [e1, h.rest_eq, e2, e3]
  omega
theorem Played.caps {s u : State} {t : Tile} (p : Played s u t) (h : Ok s) (ht : t ∈ s.unseen) (hw : 0 < s.left.getD s.who 0) : u.caps = dec s.caps s.who := by
  unfold dec
  rw [getD_caps h.who]
  unfold State.caps
  rw [(p.rest h ht hw).1, p.left, List.set_append_left _ _ h.who]
theorem Played.owners {s u : State} {t x : Tile} (p : Played s u t) (e : ¬ x = t) : u.owners x = s.owners x := by
  refine owners_same (s := s) (u := u) p.len p.lacks ?_
  rw [p.known, find_filter _ e]
/-- **play: the deals behind it are those in which the player has the tile** -/
theorem Played.deals {s u : State} {t : Tile} (p : Played s u t) (h : Ok s) (ht : t ∈ s.unseen) (hw : 0 < s.left.getD s.who 0) : u.deals = ways (held s t s.who) s.caps := by
  obtain ⟨a, b, e1, e2, ha, hb⟩ := mem_split ht (unseen_nodup h.top)
  rw [deals_ways, p.caps h ht hw, p.unseen h, e2]
  have q : held s t s.who = a.map s.owners ++ [s.who] :: b.map s.owners := by
    unfold held
    rw [e1, List.map_append, List.map_cons, if_pos rfl]
    congr 1
    · apply List.map_congr_left
      intro x hx
      rw [if_neg]
      intro z
      exact ha (z ▸ hx)
    · congr 1
      apply List.map_congr_left
      intro x hx
      rw [if_neg]
      intro z
      exact hb (z ▸ hx)
  rw [q, ways_known, getD_caps h.who, if_pos hw, List.map_append]
  congr 1
  congr 1
  · apply List.map_congr_left
    intro x hx
    exact p.owners fun z => ha (z ▸ hx)
  · apply List.map_congr_left
    intro x hx
    exact p.owners fun z => hb (z ▸ hx)

/-! ### a pass -/
def hasEnd (e : Nat × Nat) (x : Tile) : Bool := x.a == e.1 || (x.b == e.1 || (x.a == e.2 || x.b == e.2))
def passed (s : State) (e : Nat × Nat) : List (List Nat) := s.unseen.map fun x => if hasEnd e x = true then (s.owners x).filter (fun k => decide (k ≠ s.who)) else s.owners x
theorem mem_lacks {old : List Nat} {e : Nat × Nat} {n : Nat} : n ∈ old ++ ([e.1, e.2].eraseDups.filter fun n => !old.contains n) ↔ n ∈ old ∨ n = e.1 ∨ n = e.2 := by
  rw [List.mem_append, List.mem_filter, List.mem_eraseDups]
  constructor
  · rintro (h | ⟨h, _⟩)
    · exact .inl h
    · exact .inr (by simpa using h)
  · rintro (h | h)
    · exact .inl h
    · by_cases q : n ∈ old
      · exact .inl q
      · exact .inr ⟨by simpa using h, by simpa using q⟩
structure Passed (s u : State) (e : Nat × Nat) : Prop where
  top : u.top = s.top
  line : u.line = s.line
  left : u.left = s.left
  lacks : u.lacks = s.lacks.set s.who (s.lacks.getD s.who [] ++ ([e.1, e.2].eraseDups.filter fun n => !(s.lacks.getD s.who []).contains n))
  known : u.known = s.known
theorem lacks_at {s u : State} {e : Nat × Nat} (p : Passed s u e) (h : Ok s) (k n : Nat) : n ∈ u.lacks.getD k [] ↔ n ∈ s.lacks.getD k [] ∨ (k = s.who ∧ (n = e.1 ∨ n = e.2)) := by
  have hw : s.who < s.lacks.length := by
    rw [h.lacks]
    exact h.who
  rw [p.lacks, List.getD_eq_getElem?_getD, List.getElem?_set]
  by_cases q : s.who = k
  · subst q
    rw [if_pos rfl, if_pos hw]
    show n ∈ _ ++ _ ↔ _
    rw [mem_lacks]
    simp
  · rw [if_neg q, ← List.getD_eq_getElem?_getD]
    constructor
    · exact .inl
    · rintro (z | ⟨z, _⟩)
      · exact z
      · exact absurd z.symm q
theorem byPasses_passed {s u : State} {e : Nat × Nat} (p : Passed s u e) (h : Ok s) (x : Tile) :
    byPasses u x = if hasEnd e x = true then (byPasses s x).filter (fun k => decide (k ≠ s.who)) else byPasses s x := by
  have hp : u.players = s.players := by
    unfold State.players
    rw [p.left]
  have hwp : s.who < s.players := h.who
  have key : ∀ k n, (u.lacks.getD k []).contains n = ((s.lacks.getD k []).contains n || (decide (k = s.who) && (n == e.1 || n == e.2))) := by
    intro k n
    rw [Bool.eq_iff_iff, List.contains_iff_mem, lacks_at p h]
    simp
  unfold byPasses
  rw [hp]
  split
  · rename_i he
    rw [List.filter_filter]
    apply List.filter_congr
    intro k hk
    rw [key, key]
    by_cases q : k = s.who
    · subst q
      have : ¬ s.who = s.players := by omega
      have he' : (x.a == e.1 || x.a == e.2) || (x.b == e.1 || x.b == e.2) = true := by
        unfold hasEnd at he
        revert he
        cases x.a == e.1 <;> cases x.b == e.1 <;> cases x.a == e.2 <;> cases x.b == e.2 <;> simp
      simp only [this, decide_false, decide_true, Bool.true_and, Bool.false_or, ne_eq, not_true_eq_false, Bool.false_and]
      revert he'
      cases (s.lacks.getD s.who []).contains x.a <;> cases (s.lacks.getD s.who []).contains x.b <;> cases x.a == e.1 <;> cases x.b == e.1 <;> cases x.a == e.2 <;> cases x.b == e.2 <;> simp
    · simp [q]
  · rename_i he
    apply List.filter_congr
    intro k hk
    rw [key, key]
    have he' : (x.a == e.1 || x.a == e.2) = false ∧ (x.b == e.1 || x.b == e.2) = false := by
      unfold hasEnd at he
      revert he
      cases x.a == e.1 <;> cases x.b == e.1 <;> cases x.a == e.2 <;> cases x.b == e.2 <;> simp
    rw [he'.1, he'.2]
    simp
theorem unseen_passed {s u : State} {e : Nat × Nat} (p : Passed s u e) : u.unseen = s.unseen := by
  unfold State.unseen State.onTable
  rw [p.top, p.line]
theorem caps_passed {s u : State} {e : Nat × Nat} (p : Passed s u e) : u.caps = s.caps := by
  unfold State.caps State.rest
  rw [p.left, unseen_passed p]
def knownEnd (s : State) (e : Nat × Nat) : Bool := s.known.any fun z => z.2 == s.who && hasEnd e z.1
/-- **pass: the deals behind it** -/
theorem Passed.deals {s u : State} {e : Nat × Nat} (p : Passed s u e) (h : Ok s) (hk : knownEnd s e = false) : u.deals = ways (passed s e) s.caps := by
  rw [deals_ways, caps_passed p, unseen_passed p]
  congr 1
  unfold passed
  apply List.map_congr_left
  intro x _
  rw [owners_eq, owners_eq, p.known]
  cases q : s.known.find? fun y => y.1 == x with
  | none => exact byPasses_passed p h x
  | some y =>
    show [y.2] = if hasEnd e x = true then [y.2].filter (fun k => decide (k ≠ s.who)) else [y.2]
    split
    · rename_i he
      have hy : y.1 = x := by simpa using List.find?_some q
      have hz := List.any_eq_false.mp hk y (List.mem_of_find?_eq_some q)
      rw [hy, he, Bool.and_true] at hz
      have : y.2 ≠ s.who := by simpa using hz
      simp [this]
    · rfl
theorem known_find {s : State} (h : Ok s) {z : Tile × Nat} (hz : z ∈ s.known) : s.known.find? (fun y => y.1 == z.1) = some z := by
  have gen : ∀ l : List (Tile × Nat), (l.map (·.1)).Nodup → z ∈ l → l.find? (fun y => y.1 == z.1) = some z := by
    intro l
    induction l with
    | nil => intro _ h; exact absurd h (by simp)
    | cons a r ih =>
      intro hn hm
      have hn' := List.nodup_cons.mp hn
      rcases List.mem_cons.mp hm with e | e
      · subst e
        simp
      · rw [List.find?_cons_of_neg]
        · exact ih hn'.2 e
        · intro q
          have : a.1 = z.1 := by simpa using q
          exact hn'.1 (List.mem_map.mpr ⟨z, e, this.symm⟩)
  exact gen _ h.knownOnce hz
/-- known to have one that fits: no deal is left -/
theorem passed_known {s : State} {e : Nat × Nat} (h : Ok s) (hk : knownEnd s e = true) : ways (passed s e) s.caps = 0 := by
  obtain ⟨z, hz, q⟩ := List.any_eq_true.mp hk
  rw [Bool.and_eq_true] at q
  apply ways_none_mem
  unfold passed
  refine List.mem_map.mpr ⟨z.1, (h.known z hz).1, ?_⟩
  rw [if_pos q.2, owners_eq, known_find h hz]
  have : z.2 = s.who := by simpa using q.1
  simp [this]
theorem passed_count {s : State} {e : Nat × Nat} (h : Ok s) : count (passed s e) s.caps = ways (passed s e) s.caps := by
  rw [count_ways]
  rw [h.sum]
  unfold passed
  rw [List.length_map]
theorem held_count {s : State} (h : Ok s) (t : Tile) (k : Nat) : count (held s t k) s.caps = ways (held s t k) s.caps := by
  rw [count_ways]
  rw [h.sum]
  unfold held
  rw [List.length_map]
end Dm
/-! ## DmOk -/
/-! What always holds is kept by each call. -/
namespace Dm
open Kg86
set_option autoImplicit false

theorem size_append : ∀ (l m : List Nat), size (l ++ m) = size l * size m
  | [], m => by simp [size]
  | c :: cs, m => by
    show (c + 1) * size (cs ++ m) = (c + 1) * size cs * size m
    rw [size_append cs m, Nat.mul_assoc]
theorem size_replicate (p h : Nat) : size (List.replicate p h) = (h + 1) ^ p := by
  induction p with
  | zero => rfl
  | succ p ih =>
    rw [List.replicate_succ]
    show (h + 1) * size (List.replicate p h) = _
    rw [ih, Nat.pow_succ, Nat.mul_comm]
theorem sum_rep (p h : Nat) : (List.replicate p h).sum = p * h := by
  induction p with
  | zero => simp
  | succ p ih =>
    rw [List.replicate_succ, List.sum_cons, ih, Nat.succ_mul, Nat.add_comm]
def begun (p h n f : Nat) : State := ⟨n, h, [], List.replicate p h, List.replicate p [], [], f, 0, [], false⟩
theorem begun_unseen (p h n f : Nat) : (begun p h n f).unseen = full n := by
  show (full n).filter (fun t => !([] : List Tile).contains t) = full n
  rw [List.filter_eq_self]
  intro t _
  rfl
theorem begun_rest (p h n f : Nat) (hp : 0 < p) : (begun p h n f).rest = (full n).length - p * h := by
  unfold State.rest
  rw [if_neg, begun_unseen]
  · show (full n).length - (List.replicate p h).sum = _
    rw [sum_rep]
  · show ¬ List.replicate p h = []
    rw [List.replicate_eq_nil_iff]
    omega
theorem ok_begun {p h n f : Nat} (hp : 2 ≤ p ∧ p ≤ 4) (hh : 1 ≤ h) (hn : n ≤ 6) (hf : f < p) (hs : p * h ≤ (full n).length)
    (hm : (h + 1) ^ p * ((full n).length - p * h + 1) ≤ 4096) : Ok (begun p h n f) where
  top := hn
  few := by
    show 2 ≤ (List.replicate p h).length ∧ (List.replicate p h).length ≤ 4
    rw [List.length_replicate]
    exact hp
  lacks := by simp [begun]
  who := by
    show f < (List.replicate p h).length
    rw [List.length_replicate]
    exact hf
  tiles := fun t ht => absurd ht (by simp [begun, State.onTable])
  once := by simp [begun, State.onTable]
  rest := by
    rw [begun_unseen]
    show (List.replicate p h).sum ≤ _
    rw [sum_rep]
    exact hs
  size := by
    unfold State.caps
    rw [begun_rest p h n f (by omega), size_append]
    show size (List.replicate p h) * _ ≤ _
    rw [size_replicate]
    simpa [size] using hm
  known := fun e he => absurd he (by simp [begun])
  knownOnce := by simp [begun]
  lackRange := fun l hl => by
    have : l = [] := (List.mem_replicate.mp hl).2
    subst this
    intro n hn
    exact absurd hn (by simp)
  lackOnce := fun l hl => by
    have : l = [] := (List.mem_replicate.mp hl).2
    subst this
    exact List.nodup_nil
  going := fun _ k hk => by
    have : k = h := (List.mem_replicate.mp hk).2
    omega
  passes := Nat.zero_le _
  going2 := fun _ => by
    show 0 < (List.replicate p h).length
    rw [List.length_replicate]
    omega
  shownOnce := by simp [begun]
  shownIn := fun e he => absurd he (by simp [begun])

theorem not_known {l : List (Tile × Nat)} {t : Tile} (h : (l.any fun z => z.1 == t) = false) : t ∉ l.map (·.1) := by
  intro q
  obtain ⟨z, hz, e⟩ := List.mem_map.mp q
  have := List.any_eq_false.mp h z hz
  exact this (by simpa using e)
theorem nodup_snoc {α : Type} {l : List α} {a : α} (h : l.Nodup) (ha : a ∉ l) : (l ++ [a]).Nodup := by
  rw [List.nodup_append]
  refine ⟨h, by simp, ?_⟩
  intro x hx y hy e
  rw [List.mem_singleton] at hy
  subst hy
  subst e
  exact ha hx
theorem ok_know {s : State} {t : Tile} {k : Nat} (h : Ok s) (ht : t ∈ s.unseen) (hk : k ≤ s.left.length) (hn : (s.known.any fun z => z.1 == t) = false) : Ok { s with known := s.known ++ [(t, k)] } :=
  { h with
    known := fun e he => by
      rcases List.mem_append.mp he with z | z
      · exact h.known e z
      · rw [List.mem_singleton.mp z]
        exact ⟨ht, hk⟩
    knownOnce := by
      show ((s.known ++ [(t, k)]).map (·.1)).Nodup
      rw [List.map_append]
      exact nodup_snoc h.knownOnce (not_known hn) }

/-! ### a tile laid -/
def fitsAt (line : List (Nat × Nat)) (t : Tile) (e : Nat) : Bool := line.isEmpty || (t.a == e || t.b == e)
def otherOf (t : Tile) (n : Nat) : Nat := if t.a = n then t.b else t.a
def layAt (s : State) (t : Tile) (side : Nat) : List (Nat × Nat) := match s.ends with
  | none => [(t.a, t.b)]
  | some e => if side = 0 then (otherOf t e.1, e.1) :: s.line else s.line ++ [(e.2, otherOf t e.2)]
theorem ends_none {s : State} : s.ends = none ↔ s.line = [] := by
  unfold State.ends
  cases s.line with
  | nil => simp
  | cons a r =>
    cases e : (a :: r).getLast? with
    | none => rw [List.getLast?_eq_none_iff] at e; exact absurd e (by simp)
    | some y => simp
def endOf (s : State) (side : Nat) : Option Nat := s.ends.map fun e => if side = 0 then e.1 else e.2
def fitsSide (s : State) (t : Tile) (side : Nat) : Bool := match endOf s side with
  | none => true
  | some n => t.a == n || t.b == n
theorem laid_eq (s : State) (t : Tile) (side : Nat) : s.laid t side = if fitsSide s t side = true then some (layAt s t side) else none := by
  unfold State.laid fitsSide endOf layAt
  cases s.ends with
  | none => rfl
  | some e =>
    by_cases hs : side = 0
    · simp only [hs, if_true, Option.map_some, otherOf]
      by_cases h1 : t.b = e.1
      · by_cases h2 : t.a = e.1 <;> simp [h1, h2]
      · by_cases h2 : t.a = e.1 <;> simp [h1, h2]
    · simp only [if_neg hs, Option.map_some, otherOf]
      by_cases h1 : t.a = e.2
      · simp [h1]
      · by_cases h2 : t.b = e.2 <;> simp [h1, h2]
theorem tile_of_other {t : Tile} {n : Nat} (h : t.a ≤ t.b) (hf : t.a = n ∨ t.b = n) : tile (otherOf t n) n = t ∧ tile n (otherOf t n) = t := by
  have : tile (otherOf t n) n = t := by
    unfold otherOf
    by_cases e : t.a = n
    · rw [if_pos e, ← e, tile_comm]
      exact tile_self h
    · rw [if_neg e]
      have e2 : t.b = n := hf.resolve_left e
      rw [← e2]
      exact tile_self h
  exact ⟨this, by rw [tile_comm]; exact this⟩
theorem lay_on {s : State} {t : Tile} {side : Nat} (h : t.a ≤ t.b) (hf : fitsSide s t side = true) :
    (layAt s t side).map (fun x => tile x.1 x.2) = t :: s.onTable ∨ (layAt s t side).map (fun x => tile x.1 x.2) = s.onTable ++ [t] := by
  unfold layAt State.onTable
  unfold fitsSide endOf at hf
  cases e : s.ends with
  | none =>
    rw [ends_none.mp e]
    left
    simp [tile_self h]
  | some x =>
    rw [e] at hf
    by_cases hs : side = 0
    · left
      simp only [hs, if_true, List.map_cons]
      simp only [hs, if_true, Option.map_some] at hf
      rw [(tile_of_other h (by simpa using hf)).1]
    · right
      simp only [if_neg hs, List.map_append, List.map_cons, List.map_nil]
      simp only [if_neg hs, Option.map_some] at hf
      rw [(tile_of_other h (by simpa using hf)).2]
/-- the state behind a play -/
def playedBy (s : State) (t : Tile) (side : Nat) : State :=
  { s with line := layAt s t side, left := s.left.set s.who (s.left.getD s.who 0 - 1), known := s.known.filter (fun z => z.1 != t), passes := 0, who := s.next, over := s.left.getD s.who 0 - 1 == 0 }
theorem played_by {s : State} {t : Tile} {side : Nat} (h : t.a ≤ t.b) (hf : fitsSide s t side = true) : Played s (playedBy s t side) t where
  top := rfl
  on := fun x => by
    rcases lay_on h hf with e | e
    · show x ∈ (layAt s t side).map _ ↔ _
      rw [e]
      simp
    · show x ∈ (layAt s t side).map _ ↔ _
      rw [e]
      simp [or_comm]
  left := rfl
  lacks := rfl
  known := rfl
theorem next_lt {s : State} (h : Ok s) : s.next < s.left.length := Nat.mod_lt _ (by have := h.few.1; show 0 < s.left.length; omega)
theorem mem_set_pos {l : List Nat} {k v n : Nat} (h : n ∈ l.set k v) : n ∈ l ∨ n = v := List.mem_or_eq_of_mem_set h
theorem left_pos {s : State} (h : Ok s) (ho : s.over = false) : 0 < s.left.getD s.who 0 := by
  have hw := h.who
  rw [List.getD_eq_getElem?_getD, List.getElem?_eq_getElem hw]
  exact h.going ho _ (List.getElem_mem hw)
theorem ok_play {s : State} {t : Tile} {side : Nat} (h : Ok s) (ho : s.over = false) (ht : t ∈ s.unseen) (hf : fitsSide s t side = true) : Ok (playedBy s t side) := by
  obtain ⟨h1, h2⟩ := mem_unseen.mp ht
  have hab := (mem_full.mp h1).1
  have p := played_by hab hf
  have hw := left_pos h ho
  have hon := lay_on hab hf
  exact {
    top := h.top
    few := by rw [p.len]; exact h.few
    lacks := by rw [p.len]; exact h.lacks
    who := by rw [p.len]; exact next_lt h
    tiles := fun x hx => by
      rcases (p.on x).mp hx with e | e
      · subst e
        exact h1
      · exact h.tiles x e
    once := by
      rcases hon with e | e
      · show ((layAt s t side).map _).Nodup
        rw [e]
        exact List.nodup_cons.mpr ⟨h2, h.once⟩
      · show ((layAt s t side).map _).Nodup
        rw [e]
        exact nodup_snoc h.once h2
    rest := (p.rest h ht hw).2
    size := by
      rw [p.caps h ht hw]
      exact Nat.le_trans (size_dec _ _) h.size
    known := fun e he => by
      obtain ⟨a, b⟩ := List.mem_filter.mp he
      obtain ⟨c, d⟩ := h.known e a
      refine ⟨?_, by rw [p.len]; exact d⟩
      rw [p.unseen h, List.Nodup.mem_erase_iff (unseen_nodup h.top)]
      exact ⟨by simpa using b, c⟩
    knownOnce := by
      show ((s.known.filter _).map (·.1)).Nodup
      exact (h.knownOnce).sublist (List.Sublist.map _ List.filter_sublist)
    lackRange := h.lackRange
    lackOnce := h.lackOnce
    going := fun q n hn => by
      have q' : (s.left.getD s.who 0 - 1 == 0) = false := q
      have q2 : ¬ s.left.getD s.who 0 - 1 = 0 := by simpa using q'
      rcases mem_set_pos (show n ∈ s.left.set s.who (s.left.getD s.who 0 - 1) from hn) with e | e
      · exact h.going ho n e
      · omega
    passes := Nat.zero_le _
    going2 := fun _ => by
      rw [p.len]
      have := h.few.1
      show 0 < s.left.length
      omega
    shownOnce := h.shownOnce
    shownIn := fun e he => by
      rw [p.len]
      exact h.shownIn e he }

/-! ### a pass -/
def passedBy (s : State) (e : Nat × Nat) : State :=
  { s with lacks := s.lacks.set s.who (s.lacks.getD s.who [] ++ ([e.1, e.2].eraseDups.filter fun n => !(s.lacks.getD s.who []).contains n)), passes := s.passes + 1, who := s.next, over := decide (s.players ≤ s.passes + 1) }
theorem passed_by (s : State) (e : Nat × Nat) : Passed s (passedBy s e) e := ⟨rfl, rfl, rfl, rfl, rfl⟩
theorem two_once (a b : Nat) : ([a, b].eraseDups).Nodup := by
  by_cases h : a = b
  · subst h
    simp [List.eraseDups_cons]
  · have : ¬ b = a := fun e => h e.symm
    simp [List.eraseDups_cons, h, this]
theorem ok_pass {s : State} {e : Nat × Nat} (h : Ok s) (ho : s.over = false) (he : e.1 ≤ 6 ∧ e.2 ≤ 6) : Ok (passedBy s e) where
  top := h.top
  few := h.few
  lacks := by
    show (s.lacks.set _ _).length = _
    rw [List.length_set]
    exact h.lacks
  who := next_lt h
  tiles := h.tiles
  once := h.once
  rest := h.rest
  size := h.size
  known := h.known
  knownOnce := h.knownOnce
  lackRange := fun l hl n hn => by
    rcases List.mem_or_eq_of_mem_set hl with z | z
    · exact h.lackRange l z n hn
    · subst z
      rcases mem_lacks.mp hn with q | q | q
      · rw [List.getD_eq_getElem?_getD] at q
        cases r : s.lacks[s.who]? with
        | none => rw [r] at q; exact absurd q (by simp)
        | some x => rw [r] at q; exact h.lackRange x (List.mem_of_getElem? r) n q
      · rw [q]; exact he.1
      · rw [q]; exact he.2
  lackOnce := fun l hl => by
    rcases List.mem_or_eq_of_mem_set hl with z | z
    · exact h.lackOnce l z
    · subst z
      have old : (s.lacks.getD s.who []).Nodup := by
        rw [List.getD_eq_getElem?_getD]
        cases r : s.lacks[s.who]? with
        | none => exact List.nodup_nil
        | some x => exact h.lackOnce x (List.mem_of_getElem? r)
      rw [List.nodup_append]
      refine ⟨old, List.Pairwise.filter _ (two_once _ _), ?_⟩
      intro a ha b hb e
      subst e
      have := (List.mem_filter.mp hb).2
      simp at this
      exact this ha
  going := fun _ => h.going ho
  passes := h.going2 ho
  going2 := fun q => by
    have : ¬ s.players ≤ s.passes + 1 := of_decide_eq_false q
    show s.passes + 1 < s.left.length
    unfold State.players at this
    omega
  shownOnce := h.shownOnce
  shownIn := h.shownIn
theorem tile_le {x : Nat × Nat} {n : Nat} : (tile x.1 x.2).b ≤ n ↔ x.1 ≤ n ∧ x.2 ≤ n := by
  unfold tile
  show max x.1 x.2 ≤ n ↔ _
  omega
theorem line_le {s : State} (h : Ok s) {x : Nat × Nat} (hx : x ∈ s.line) : x.1 ≤ 6 ∧ x.2 ≤ 6 := by
  have a := h.tiles _ (List.mem_map.mpr ⟨x, hx, rfl⟩)
  have b := tile_le.mp (mem_full.mp a).2
  have := h.top
  omega
theorem ends_mem {s : State} {e : Nat × Nat} (he : s.ends = some e) : (∃ x r, s.line = x :: r ∧ e.1 = x.1) ∧ ∃ y r, s.line = r ++ [y] ∧ e.2 = y.2 := by
  unfold State.ends at he
  cases hl : s.line.head? with
  | none => rw [hl] at he; exact absurd he (by simp)
  | some x =>
    cases hg : s.line.getLast? with
    | none => rw [hl, hg] at he; exact absurd he (by simp)
    | some y =>
      rw [hl, hg] at he
      have e1 : (x.1, y.2) = e := Option.some.inj he
      subst e1
      obtain ⟨r, hr⟩ := List.head?_eq_some_iff.mp hl
      obtain ⟨r2, hr2⟩ := List.getLast?_eq_some_iff.mp hg
      exact ⟨⟨x, r, hr, rfl⟩, ⟨y, r2, hr2, rfl⟩⟩
theorem ends_le {s : State} (h : Ok s) {e : Nat × Nat} (he : s.ends = some e) : e.1 ≤ 6 ∧ e.2 ≤ 6 := by
  obtain ⟨⟨x, r, h1, h2⟩, ⟨y, r2, h3, h4⟩⟩ := ends_mem he
  have a := line_le h (x := x) (by rw [h1]; exact List.mem_cons.mpr (.inl rfl))
  have b := line_le h (x := y) (by rw [h3]; simp)
  omega

/-! ### a hand shown -/
def shownBy (s : State) (k : Nat) (r : List Tile) : State :=
  { s with known := (s.known.filter fun z => !r.contains z.1) ++ r.map (fun t => (t, k)), shown := s.shown ++ [(k, r)] }
theorem ok_show {s : State} {k : Nat} {r : List Tile} (h : Ok s) (hk : k < s.left.length) (hn : r.Nodup) (hr : ∀ t ∈ r, t ∈ s.unseen) (hs : k ∉ s.shown.map (·.1)) : Ok (shownBy s k r) :=
  { h with
    shownOnce := by
      show ((s.shown ++ [(k, r)]).map (·.1)).Nodup
      rw [List.map_append]
      exact nodup_snoc h.shownOnce hs
    shownIn := fun e he => by
      rcases List.mem_append.mp he with z | z
      · exact h.shownIn e z
      · rw [List.mem_singleton.mp z]
        exact hk
    known := fun e he => by
      rcases List.mem_append.mp he with z | z
      · exact h.known e (List.mem_filter.mp z).1
      · obtain ⟨t, ht, rfl⟩ := List.mem_map.mp z
        exact ⟨hr t ht, Nat.le_of_lt hk⟩
    knownOnce := by
      show (((s.known.filter fun z => !r.contains z.1) ++ r.map (fun t => (t, k))).map (·.1)).Nodup
      rw [List.map_append, List.map_map, List.nodup_append]
      refine ⟨h.knownOnce.sublist (List.Sublist.map _ List.filter_sublist), ?_, ?_⟩
      · have : r.map ((fun x : Tile × Nat => x.1) ∘ fun t => (t, k)) = r := by
          have e : ((fun x : Tile × Nat => x.1) ∘ fun t => (t, k)) = id := rfl
          rw [e, List.map_id]
        rw [this]
        exact hn
      · intro a ha b hb e
        obtain ⟨z, hz, rfl⟩ := List.mem_map.mp ha
        obtain ⟨t, ht, rfl⟩ := List.mem_map.mp hb
        have q := (List.mem_filter.mp hz).2
        have e' : z.1 = t := e
        rw [e'] at q
        simp at q
        exact q ht }
end Dm
/-! ## DmSpec -/
/-! The specification's calls as the refusals come, one behind another. -/
namespace Dm
open Kg86
set_option autoImplicit false

/-- there is no round, or one that is as it should be -/
def Valid (s : State) : Prop := s = Kg86.init ∨ Ok s
theorem eqT {b : Bool} (h : ¬ b = false) : b = true := by
  cases b
  · exact absurd rfl h
  · rfl
theorem valid_init : Valid Kg86.init := .inl rfl
theorem init_over : Kg86.init.over = true := rfl
theorem Valid.ok {s : State} (h : Valid s) (hp : s.left ≠ []) : Ok s := h.resolve_left fun e => hp (by rw [e]; rfl)
theorem Valid.ok_of_over {s : State} (h : Valid s) (ho : s.over = false) : Ok s := h.resolve_left fun e => by
  rw [e] at ho
  exact absurd ho (by decide)
theorem isTile_ok {s : State} {x y : Int} (h : Valid s) (ht : isTile s x y = true) : Ok s := h.resolve_left fun e => by
  subst e
  have : isTile Kg86.init x y = false := by
    unfold isTile
    have : decide (0 < Kg86.init.players) = false := by decide
    rw [this, Bool.false_and]
  rw [this] at ht
  exact absurd ht Bool.false_ne_true
/-- the tile that is told by two numbers -/
def tl (x y : Int) : Tile := tile x.toNat y.toNat
theorem within_iff {z lo hi : Int} : within z lo hi = true ↔ lo ≤ z ∧ z ≤ hi := by
  unfold within
  rw [Bool.and_eq_true, decide_eq_true_eq, decide_eq_true_eq]
theorem isTile_iff {s : State} {x y : Int} : isTile s x y = true ↔ 0 < s.left.length ∧ (0 ≤ x ∧ x ≤ (s.top : Int)) ∧ (0 ≤ y ∧ y ≤ (s.top : Int)) := by
  unfold isTile State.players
  rw [Bool.and_eq_true, Bool.and_eq_true, within_iff, within_iff, decide_eq_true_eq]
/-- as the program asks it -/
theorem isTile_eq {s : State} (h : Valid s) (x y : Int) : isTile s x y = (decide (0 ≤ min x y) && decide (max x y ≤ if s.left = [] then -1 else (s.top : Int))) := by
  rw [Bool.eq_iff_iff, isTile_iff, Bool.and_eq_true, decide_eq_true_eq, decide_eq_true_eq]
  by_cases hl : s.left = []
  · rw [if_pos hl, hl]
    constructor
    · rintro ⟨h1, _⟩
      exact absurd h1 (by simp)
    · intro h2
      omega
  · rw [if_neg hl]
    have : 0 < s.left.length := List.length_pos_iff.mpr hl
    constructor
    · rintro ⟨_, h1, h2⟩
      omega
    · intro h2
      omega
theorem tl_parts {x y : Int} (hx : 0 ≤ x) (hy : 0 ≤ y) : ((tl x y).a : Int) = min x y ∧ ((tl x y).b : Int) = max x y := by
  unfold tl tile
  show ((min x.toNat y.toNat : Nat) : Int) = _ ∧ ((max x.toNat y.toNat : Nat) : Int) = _
  omega
theorem tl_full {s : State} {x y : Int} (h : isTile s x y = true) : tl x y ∈ full s.top := by
  obtain ⟨_, h1, h2⟩ := isTile_iff.mp h
  rw [mem_full]
  have := tl_parts h1.1 h2.1
  omega
theorem tl_le {x y : Int} : (tl x y).a ≤ (tl x y).b := by
  unfold tl tile
  show min x.toNat y.toNat ≤ max x.toNat y.toNat
  omega

/-! ### know -/
def knowBy (s : State) (t : Tile) (k : Nat) : State := { s with known := s.known ++ [(t, k)] }
def knowRef (s : State) (k x y : Int) : Int :=
  if (isTile s x y && within k 0 (s.players : Int)) = false then -1 else if s.over = true then -3
  else if (!s.unseen.contains (tl x y) || s.known.any fun z => z.1 == tl x y) = true then -4
  else if s.dealsWith (tl x y) k.toNat = 0 then -7 else 0
theorem spec_know (s : State) (k x y : Int) : Kg86.spec s (.know k x y) = if knowRef s k x y < 0 then (s, num (knowRef s k x y)) else (knowBy s (tl x y) k.toNat, num (s.known.length + 1 : Nat)) := by
  unfold knowRef
  show (if (isTile s x y && within k 0 (s.players : Int)) = false then (s, num (-1)) else if s.over = true then (s, num (-3)) else
    if s.unseen.contains (tl x y) = false ∨ (s.known.any fun z => z.1 == tl x y) = true then (s, num (-4))
    else if (s.owners (tl x y)).contains k.toNat = false then (s, num (-7))
    else fitting s (knowBy s (tl x y) k.toNat) (num (s.known.length + 1 : Nat))) = _
  by_cases c1 : (isTile s x y && within k 0 (s.players : Int)) = false
  · rw [if_pos c1, if_pos c1]
    rfl
  rw [if_neg c1, if_neg c1]
  by_cases c2 : s.over = true
  · rw [if_pos c2, if_pos c2]
    rfl
  rw [if_neg c2, if_neg c2]
  by_cases c3 : s.unseen.contains (tl x y) = false ∨ (s.known.any fun z => z.1 == tl x y) = true
  · have c3' : (!s.unseen.contains (tl x y) || s.known.any fun z => z.1 == tl x y) = true := by
      rw [Bool.or_eq_true, Bool.not_eq_true']
      exact c3
    rw [if_pos c3, if_pos c3']
    rfl
  · have c3' : ¬ (!s.unseen.contains (tl x y) || s.known.any fun z => z.1 == tl x y) = true := by
      rw [Bool.or_eq_true, Bool.not_eq_true']
      exact c3
    rw [if_neg c3, if_neg c3', dealsWith_eq]
    have hn : (s.known.any fun z => z.1 == tl x y) = false := Bool.eq_false_iff.mpr fun z => c3 (.inr z)
    by_cases c4 : (s.owners (tl x y)).contains k.toNat = false
    · have c5 : ¬ k.toNat ∈ s.owners (tl x y) := fun z => by
        rw [List.contains_iff_mem.mpr z] at c4
        exact absurd c4 (by decide)
      rw [if_pos c4, if_neg c5]
      rfl
    · have c5 : k.toNat ∈ s.owners (tl x y) := List.contains_iff_mem.mp (eqT c4)
      rw [if_neg c4, if_pos c5]
      unfold fitting
      have e : (knowBy s (tl x y) k.toNat).deals = ways (held s (tl x y) k.toNat) s.caps := deals_know hn
      rw [e]
      by_cases c6 : ways (held s (tl x y) k.toNat) s.caps = 0
      · rw [if_pos c6, if_pos c6]
        rfl
      · rw [if_neg c6, if_neg c6]
        rfl
theorem knowRef_pos {s : State} {k x y : Int} (h : ¬ knowRef s k x y < 0) : isTile s x y = true ∧ (0 ≤ k ∧ k ≤ (s.left.length : Int)) ∧ s.over = false ∧ tl x y ∈ s.unseen ∧ (s.known.any fun z => z.1 == tl x y) = false := by
  unfold knowRef at h
  by_cases c1 : (isTile s x y && within k 0 (s.players : Int)) = false
  · rw [if_pos c1] at h
    exact absurd (by decide) h
  rw [if_neg c1] at h
  by_cases c2 : s.over = true
  · rw [if_pos c2] at h
    exact absurd (by decide) h
  rw [if_neg c2] at h
  by_cases c3 : (!s.unseen.contains (tl x y) || s.known.any fun z => z.1 == tl x y) = true
  · rw [if_pos c3] at h
    exact absurd (by decide) h
  have a := eqT c1
  rw [Bool.and_eq_true, within_iff] at a
  have b := Bool.or_eq_false_iff.mp (Bool.eq_false_iff.mpr c3)
  exact ⟨a.1, a.2, Bool.eq_false_iff.mpr c2, List.contains_iff_mem.mp (by simpa using b.1), b.2⟩

/-! ### play -/
def playRef (s : State) (x y side : Int) : Int :=
  if (isTile s x y && within side 0 1) = false then -1 else if s.over = true then -3
  else if (!s.unseen.contains (tl x y)) = true then -4
  else if (!fitsSide s (tl x y) side.toNat) = true then -6
  else if s.dealsWith (tl x y) s.who = 0 then -7 else 0
theorem spec_play {s : State} (hv : Valid s) (x y side : Int) : Kg86.spec s (.play x y side) = if playRef s x y side < 0 then (s, num (playRef s x y side))
    else (playedBy s (tl x y) side.toNat, ⟨((playedBy s (tl x y) side.toNat).left.getD s.who 0 : Nat), told (playedBy s (tl x y) side.toNat)⟩) := by
  unfold playRef
  show (if (isTile s x y && within side 0 1) = false then (s, num (-1)) else if s.over = true then (s, num (-3)) else
    if s.unseen.contains (tl x y) = false then (s, num (-4))
    else match s.laid (tl x y) side.toNat with
      | none => (s, num (-6))
      | some l => if (s.owners (tl x y)).contains s.who = false then (s, num (-7))
        else fitting s { s with line := l, left := s.left.set s.who (s.left.getD s.who 0 - 1), known := s.known.filter (fun z => z.1 != tl x y), passes := 0, who := s.next, over := s.left.getD s.who 0 - 1 == 0 }
          ⟨(s.left.getD s.who 0 - 1 : Nat), told { s with line := l, left := s.left.set s.who (s.left.getD s.who 0 - 1), known := s.known.filter (fun z => z.1 != tl x y), passes := 0, who := s.next, over := s.left.getD s.who 0 - 1 == 0 }⟩) = _
  by_cases c1 : (isTile s x y && within side 0 1) = false
  · rw [if_pos c1, if_pos c1]
    rfl
  rw [if_neg c1, if_neg c1]
  by_cases c2 : s.over = true
  · rw [if_pos c2, if_pos c2]
    rfl
  rw [if_neg c2, if_neg c2]
  have ok := hv.ok_of_over (Bool.eq_false_iff.mpr c2)
  by_cases c3 : s.unseen.contains (tl x y) = false
  · have d3 : (!s.unseen.contains (tl x y)) = true := by rw [c3]; rfl
    rw [if_pos c3, if_pos d3]
    rfl
  have c3' : s.unseen.contains (tl x y) = true := eqT c3
  have mem : tl x y ∈ s.unseen := List.contains_iff_mem.mp c3'
  have d3 : ¬ (!s.unseen.contains (tl x y)) = true := by rw [c3']; decide
  rw [if_neg c3, if_neg d3, laid_eq]
  by_cases c4 : fitsSide s (tl x y) side.toNat = true
  · have d4 : ¬ (!fitsSide s (tl x y) side.toNat) = true := by rw [c4]; decide
    rw [if_pos c4, if_neg d4, dealsWith_eq]
    have hp := left_pos ok (Bool.eq_false_iff.mpr c2)
    have e2 : ((playedBy s (tl x y) side.toNat).left.getD s.who 0 : Nat) = s.left.getD s.who 0 - 1 := by
      show (s.left.set s.who (s.left.getD s.who 0 - 1)).getD s.who 0 = _
      rw [List.getD_eq_getElem?_getD, List.getElem?_set_self ok.who]
      rfl
    rw [e2]
    show (if (s.owners (tl x y)).contains s.who = false then (s, num (-7)) else fitting s (playedBy s (tl x y) side.toNat) ⟨(s.left.getD s.who 0 - 1 : Nat), told (playedBy s (tl x y) side.toNat)⟩) = _
    by_cases c5 : (s.owners (tl x y)).contains s.who = false
    · have c6 : ¬ s.who ∈ s.owners (tl x y) := fun z => by
        rw [List.contains_iff_mem.mpr z] at c5
        exact absurd c5 (by decide)
      rw [if_pos c5, if_neg c6]
      rfl
    · have c6 : s.who ∈ s.owners (tl x y) := List.contains_iff_mem.mp (eqT c5)
      rw [if_neg c5, if_pos c6]
      unfold fitting
      have e : (playedBy s (tl x y) side.toNat).deals = ways (held s (tl x y) s.who) s.caps := (played_by tl_le c4).deals ok mem hp
      rw [e]
      by_cases c7 : ways (held s (tl x y) s.who) s.caps = 0
      · rw [if_pos c7, if_pos c7]
        rfl
      · rw [if_neg c7, if_neg c7]
        rfl
  · have d4 : (!fitsSide s (tl x y) side.toNat) = true := by rw [Bool.eq_false_iff.mpr c4]; rfl
    rw [if_neg c4, if_pos d4]
    rfl
theorem playRef_pos {s : State} {x y side : Int} (h : ¬ playRef s x y side < 0) : isTile s x y = true ∧ (0 ≤ side ∧ side ≤ 1) ∧ s.over = false ∧ tl x y ∈ s.unseen ∧ fitsSide s (tl x y) side.toNat = true := by
  unfold playRef at h
  by_cases c1 : (isTile s x y && within side 0 1) = false
  · rw [if_pos c1] at h
    exact absurd (by decide) h
  rw [if_neg c1] at h
  by_cases c2 : s.over = true
  · rw [if_pos c2] at h
    exact absurd (by decide) h
  rw [if_neg c2] at h
  by_cases c3 : (!s.unseen.contains (tl x y)) = true
  · rw [if_pos c3] at h
    exact absurd (by decide) h
  rw [if_neg c3] at h
  by_cases c4 : (!fitsSide s (tl x y) side.toNat) = true
  · rw [if_pos c4] at h
    exact absurd (by decide) h
  have a := eqT c1
  rw [Bool.and_eq_true, within_iff] at a
  exact ⟨a.1, a.2, Bool.eq_false_iff.mpr c2, List.contains_iff_mem.mp (by simpa using c3), by simpa using c4⟩

/-! ### pass -/
def passRef (s : State) : Int := if s.over = true then -3 else match s.ends with
  | none => -6
  | some e => if ways (passed s e) s.caps = 0 then -7 else 0
theorem spec_pass {s : State} (hv : Valid s) : Kg86.spec s .pass = match s.ends with
    | none => (s, num (passRef s))
    | some e => if passRef s < 0 then (s, num (passRef s)) else (passedBy s e, ⟨(s.passes + 1 : Nat), told (passedBy s e)⟩) := by
  unfold passRef
  show (if s.over = true then (s, num (-3)) else match s.ends with
    | none => (s, num (-6))
    | some e =>
      if knownEnd s e = true then (s, num (-7))
      else fitting s (passedBy s e) ⟨(s.passes + 1 : Nat), told (passedBy s e)⟩) = _
  by_cases c2 : s.over = true
  · rw [if_pos c2, if_pos c2]
    cases s.ends with
    | none => rfl
    | some e => rfl
  rw [if_neg c2, if_neg c2]
  have ok := hv.ok_of_over (Bool.eq_false_iff.mpr c2)
  cases s.ends with
  | none => rfl
  | some e =>
    show (if knownEnd s e = true then (s, num (-7)) else fitting s (passedBy s e) ⟨(s.passes + 1 : Nat), told (passedBy s e)⟩) =
      if (if ways (passed s e) s.caps = 0 then (-7 : Int) else 0) < 0 then (s, num (if ways (passed s e) s.caps = 0 then (-7 : Int) else 0)) else _
    by_cases c3 : knownEnd s e = true
    · rw [if_pos c3, if_pos (passed_known ok c3)]
      rfl
    · rw [if_neg c3]
      unfold fitting
      rw [(passed_by s e).deals ok (Bool.eq_false_iff.mpr c3)]
      by_cases c4 : ways (passed s e) s.caps = 0
      · rw [if_pos c4, if_pos c4]
        rfl
      · rw [if_neg c4, if_neg c4]
        rfl

/-! ### begin -/
def restOf (p h n : Nat) : Nat := (full n).length - p * h
def beginRef (p h n f : Int) : Int :=
  if (within p 2 4 && (within h 1 7 && within n 1 6)) = false then -1
  else if (decide (0 ≤ f) && decide (f < p)) = false then -1
  else if ((full n.toNat).length : Int) - p * h < 0 then -4
  else if (4096 : Int) < ((h.toNat + 1) ^ p.toNat * ((full n.toNat).length - p.toNat * h.toNat + 1) : Nat) then -5 else 0
theorem spec_begin (s : State) (p h n f : Int) : Kg86.spec s (.begin_ p h n f) = if beginRef p h n f < 0 then (s, num (beginRef p h n f))
    else (begun p.toNat h.toNat n.toNat f.toNat, num ((full n.toNat).length - p.toNat * h.toNat : Nat)) := by
  unfold beginRef
  show (if (within p 2 4 && (within h 1 7 && (within n 1 6 && within f 0 (p - 1)))) = false then (s, num (-1))
    else if (full n.toNat).length < p.toNat * h.toNat then (s, num (-4))
    else if 4096 < (h.toNat + 1) ^ p.toNat * ((full n.toNat).length - p.toNat * h.toNat + 1) then (s, num (-5))
    else (begun p.toNat h.toNat n.toNat f.toNat, num ((full n.toNat).length - p.toNat * h.toNat : Nat))) = _
  have ef : within f 0 (p - 1) = (decide (0 ≤ f) && decide (f < p)) := by
    rw [Bool.eq_iff_iff, within_iff, Bool.and_eq_true, decide_eq_true_eq, decide_eq_true_eq]
    omega
  rw [ef]
  by_cases c1 : (within p 2 4 && (within h 1 7 && within n 1 6)) = false
  · have c1' : (within p 2 4 && (within h 1 7 && (within n 1 6 && (decide (0 ≤ f) && decide (f < p))))) = false := by
      revert c1
      cases within p 2 4 <;> cases within h 1 7 <;> cases within n 1 6 <;> simp
    rw [if_pos c1, if_pos c1']
    rfl
  rw [if_neg c1]
  have a := eqT c1
  rw [Bool.and_eq_true, Bool.and_eq_true] at a
  obtain ⟨a1, a2, a3⟩ := a
  rw [a1, a2, a3, Bool.true_and, Bool.true_and, Bool.true_and]
  by_cases c2 : (decide (0 ≤ f) && decide (f < p)) = false
  · rw [if_pos c2, if_pos c2]
    rfl
  rw [if_neg c2, if_neg c2]
  have b1 := within_iff.mp a1
  have b2 := within_iff.mp a2
  have ep : ((p.toNat * h.toNat : Nat) : Int) = p * h := by
    have e1 : ((p.toNat : Nat) : Int) = p := Int.toNat_of_nonneg (by omega)
    have e2 : ((h.toNat : Nat) : Int) = h := Int.toNat_of_nonneg (by omega)
    rw [Int.natCast_mul, e1, e2]
  by_cases c3 : (full n.toNat).length < p.toNat * h.toNat
  · have c3' : ((full n.toNat).length : Int) - p * h < 0 := by omega
    rw [if_pos c3, if_pos c3']
    rfl
  · have c3' : ¬ ((full n.toNat).length : Int) - p * h < 0 := by omega
    rw [if_neg c3, if_neg c3']
    by_cases c4 : 4096 < (h.toNat + 1) ^ p.toNat * ((full n.toNat).length - p.toNat * h.toNat + 1)
    · have d4 : (4096 : Int) < ((h.toNat + 1) ^ p.toNat * ((full n.toNat).length - p.toNat * h.toNat + 1) : Nat) := by omega
      rw [if_pos c4, if_pos d4]
      rfl
    · have d4 : ¬ (4096 : Int) < ((h.toNat + 1) ^ p.toNat * ((full n.toNat).length - p.toNat * h.toNat + 1) : Nat) := by omega
      rw [if_neg c4, if_neg d4]
      rfl
theorem beginRef_pos {p h n f : Int} (q : ¬ beginRef p h n f < 0) : (2 ≤ p ∧ p ≤ 4) ∧ (1 ≤ h ∧ h ≤ 7) ∧ (1 ≤ n ∧ n ≤ 6) ∧ (0 ≤ f ∧ f < p) ∧ p.toNat * h.toNat ≤ (full n.toNat).length ∧
    (h.toNat + 1) ^ p.toNat * ((full n.toNat).length - p.toNat * h.toNat + 1) ≤ 4096 := by
  unfold beginRef at q
  by_cases c1 : (within p 2 4 && (within h 1 7 && within n 1 6)) = false
  · rw [if_pos c1] at q
    exact absurd (by decide) q
  rw [if_neg c1] at q
  by_cases c2 : (decide (0 ≤ f) && decide (f < p)) = false
  · rw [if_pos c2] at q
    exact absurd (by decide) q
  rw [if_neg c2] at q
  by_cases c3 : ((full n.toNat).length : Int) - p * h < 0
  · rw [if_pos c3] at q
    exact absurd (by decide) q
  rw [if_neg c3] at q
  by_cases c4 : (4096 : Int) < ((h.toNat + 1) ^ p.toNat * ((full n.toNat).length - p.toNat * h.toNat + 1) : Nat)
  · rw [if_pos c4] at q
    exact absurd (by decide) q
  have a := eqT c1
  rw [Bool.and_eq_true, Bool.and_eq_true, within_iff, within_iff, within_iff] at a
  have b := eqT c2
  rw [Bool.and_eq_true, decide_eq_true_eq, decide_eq_true_eq] at b
  refine ⟨a.1, a.2.1, a.2.2, b, ?_, by omega⟩
  have ep : ((p.toNat * h.toNat : Nat) : Int) = p * h := by
    have e1 : ((p.toNat : Nat) : Int) = p := Int.toNat_of_nonneg (by omega)
    have e2 : ((h.toNat : Nat) : Int) = h := Int.toNat_of_nonneg (by omega)
    rw [Int.natCast_mul, e1, e2]
  omega
theorem ok_begin {p h n f : Int} (q : ¬ beginRef p h n f < 0) : Ok (begun p.toNat h.toNat n.toNat f.toNat) := by
  obtain ⟨a, b, c, d, e, g⟩ := beginRef_pos q
  exact ok_begun (by omega) (by omega) (by omega) (by omega) e g

/-! ### show -/
/-- the choices with a hand held -/
def heldAll (s : State) (r : List Tile) (k : Nat) : List (List Nat) := s.unseen.map fun x => if r.contains x = true then [k] else s.owners x
theorem find_shown (known : List (Tile × Nat)) (r : List Tile) (k : Nat) (x : Tile) :
    (((known.filter fun z => !r.contains z.1) ++ r.map fun t => (t, k)).find? fun y => y.1 == x).map (·.2) = if r.contains x = true then some k else (known.find? fun y => y.1 == x).map (·.2) := by
  rw [List.find?_append]
  by_cases c : r.contains x = true
  · rw [if_pos c]
    have e1 : (known.filter fun z => !r.contains z.1).find? (fun y => y.1 == x) = none := by
      rw [List.find?_eq_none]
      intro y hy q
      have a := (List.mem_filter.mp hy).2
      have b : y.1 = x := by simpa using q
      rw [b, c] at a
      exact absurd a (by decide)
    rw [e1, Option.none_or]
    have mem := List.contains_iff_mem.mp c
    cases q : (r.map fun t => (t, k)).find? (fun y => y.1 == x) with
    | none =>
      have := List.find?_eq_none.mp q (x, k) (List.mem_map.mpr ⟨x, mem, rfl⟩)
      exact absurd (by simp) this
    | some y =>
      obtain ⟨t, _, rfl⟩ := List.mem_map.mp (List.mem_of_find?_eq_some q)
      rfl
  · rw [if_neg c]
    have e1 : (r.map fun t => (t, k)).find? (fun y => y.1 == x) = none := by
      rw [List.find?_eq_none]
      intro y hy q
      obtain ⟨t, ht, rfl⟩ := List.mem_map.mp hy
      have b : t = x := by simpa using q
      exact c (List.contains_iff_mem.mpr (b ▸ ht))
    rw [e1, Option.or_none, List.find?_filter]
    congr 2
    funext y
    by_cases q : y.1 == x
    · have : y.1 = x := by simpa using q
      rw [this, Bool.eq_false_iff.mpr c]
      simp
    · simp [q]
theorem owners_shown (s : State) (r : List Tile) (k : Nat) (x : Tile) : (shownBy s k r).owners x = if r.contains x = true then [k] else s.owners x := by
  have f := find_shown s.known r k x
  by_cases c : r.contains x = true
  · rw [if_pos c] at f ⊢
    rw [owners_eq]
    show (match ((s.known.filter fun z => !r.contains z.1) ++ r.map fun t => (t, k)).find? fun y => y.1 == x with
      | some x => [x.2]
      | none => byPasses (shownBy s k r) x) = [k]
    cases q : ((s.known.filter fun z => !r.contains z.1) ++ r.map fun t => (t, k)).find? (fun y => y.1 == x) with
    | none => rw [q] at f; exact absurd f (by simp)
    | some y =>
      rw [q] at f
      have : y.2 = k := by simpa using f
      show [y.2] = [k]
      rw [this]
  · rw [if_neg c] at f ⊢
    exact owners_same (s := s) (u := shownBy s k r) rfl rfl f
theorem deals_shown (s : State) (r : List Tile) (k : Nat) : (shownBy s k r).deals = ways (heldAll s r k) s.caps := by
  rw [deals_ways]
  congr 1
  unfold heldAll
  show s.unseen.map _ = _
  apply List.map_congr_left
  intro x _
  exact owners_shown s r k x
theorem heldAll_count {s : State} (h : Ok s) (r : List Tile) (k : Nat) : count (heldAll s r k) s.caps = ways (heldAll s r k) s.caps := by
  rw [count_ways]
  rw [h.sum]
  unfold heldAll
  rw [List.length_map]

/-! ### what always holds is kept -/
theorem valid_know {s : State} (hv : Valid s) {k x y : Int} (h : ¬ knowRef s k x y < 0) : Ok (knowBy s (tl x y) k.toNat) := by
  obtain ⟨a, b, c, d, e⟩ := knowRef_pos h
  exact ok_know (hv.ok_of_over c) d (by omega) e
theorem valid_play {s : State} (hv : Valid s) {x y side : Int} (h : ¬ playRef s x y side < 0) : Ok (playedBy s (tl x y) side.toNat) := by
  obtain ⟨a, b, c, d, e⟩ := playRef_pos h
  exact ok_play (hv.ok_of_over c) c d e
theorem valid_pass {s : State} (hv : Valid s) {e : Nat × Nat} (he : s.ends = some e) (h : ¬ passRef s < 0) : s.over = false ∧ Ok (passedBy s e) := by
  have c : s.over = false := by
    refine Bool.eq_false_iff.mpr fun z => h ?_
    unfold passRef
    rw [if_pos z]
    decide
  exact ⟨c, ok_pass (hv.ok_of_over c) c (ends_le (hv.ok_of_over c) he)⟩
end Dm
/-! ## DmPlace -/
/-! By place, how many deals there are in which one certain tile is there. -/
namespace Dm
open Kg86
set_option autoImplicit false

/-- one tile's room, at the place k -/
def unit (n k : Nat) : List Nat := (List.range n).map fun j => if j = k then 1 else 0
theorem unit_len (n k : Nat) : (unit n k).length = n := by simp [unit]
theorem unit_get {n k i : Nat} (h : i < n) : (unit n k).getD i 0 = if i = k then 1 else 0 := by
  unfold unit
  rw [List.getD_eq_getElem?_getD, List.getElem?_map, List.getElem?_range h]
  rfl
theorem unit_at {n k i : Nat} (h : i < n) : (unit n k)[i]? = some (if i = k then 1 else 0) := by
  unfold unit
  rw [List.getElem?_map, List.getElem?_range h]
  rfl
theorem unit_inj {n k j : Nat} (hk : k < n) (h : unit n k = unit n j) : k = j := by
  have e := unit_get (k := k) hk
  rw [h, unit_get hk, if_pos rfl] at e
  by_cases q : k = j
  · exact q
  · rw [if_neg q] at e
    exact absurd e (by decide)
theorem zeros : ∀ l : List Nat, l.sum = 0 → ∀ i, l.getD i 0 = 0
  | [], _, i => by simp
  | a :: r, h, 0 => by
    rw [List.sum_cons] at h
    rw [List.getD_cons_zero]
    omega
  | a :: r, h, i + 1 => by
    rw [List.sum_cons] at h
    rw [List.getD_cons_succ]
    exact zeros r (by omega) i
theorem one_place : ∀ l : List Nat, l.sum = 1 → ∃ k, k < l.length ∧ ∀ i, l.getD i 0 = if i = k then 1 else 0
  | [], h => by simp at h
  | a :: r, h => by
    rw [List.sum_cons] at h
    by_cases e : a = 0
    · obtain ⟨k, hk, q⟩ := one_place r (by omega)
      refine ⟨k + 1, by simpa using hk, fun i => ?_⟩
      cases i with
      | zero =>
        rw [List.getD_cons_zero, e, if_neg]
        omega
      | succ i =>
        rw [List.getD_cons_succ, q i]
        by_cases w : i = k
        · rw [if_pos w, if_pos (by omega)]
        · rw [if_neg w, if_neg (by omega)]
    · have ea : a = 1 := by omega
      refine ⟨0, by simp, fun i => ?_⟩
      cases i with
      | zero => rw [List.getD_cons_zero, ea, if_pos rfl]
      | succ i =>
        rw [List.getD_cons_succ, zeros r (by omega) i, if_neg]
        omega
theorem ext_getD {l m : List Nat} (hl : l.length = m.length) (h : ∀ i, l.getD i 0 = m.getD i 0) : l = m := by
  apply List.ext_getElem hl
  intro i h1 h2
  have := h i
  rw [List.getD_eq_getElem?_getD, List.getD_eq_getElem?_getD, List.getElem?_eq_getElem h1, List.getElem?_eq_getElem h2] at this
  simpa using this
theorem is_unit {l : List Nat} {n : Nat} (hl : l.length = n) (h : l.sum = 1) : ∃ k, k < n ∧ l = unit n k := by
  obtain ⟨k, hk, q⟩ := one_place l h
  refine ⟨k, by omega, ext_getD (by rw [unit_len, hl]) fun i => ?_⟩
  by_cases hi : i < n
  · rw [q i, unit_get hi]
  · rw [getD_out l i 0 (by omega), getD_out (unit n k) i 0 (by rw [unit_len]; omega)]

theorem weigh_more (m : List (List Nat)) : ∀ (choices : List (List Nat)) (ws : Tab), weigh (ways m) (choices.foldl dealOne ws) = weigh (ways (choices ++ m)) ws
  | [], _ => rfl
  | o :: l, ws => by
    rw [List.foldl_cons, weigh_more m l, weigh_one]
    rfl
theorem ways_unit {n k j : Nat} (hk : k < n) : ways [[k]] (unit n j) = if k = j then 1 else 0 := by
  rw [ways_cons]
  simp only [List.map_cons, List.map_nil, List.sum_cons, List.sum_nil, Nat.add_zero]
  rw [unit_get hk]
  by_cases e : k = j
  · rw [if_pos e, if_pos (by decide)]
    refine if_pos (all_zero _ ?_)
    have hp : 0 < (unit n j).getD k 0 := by
      rw [unit_get hk, if_pos e]
      decide
    have h1 := sum_dec (unit n j) k hp
    have h2 : (unit n j).sum = 1 := by
      have gen : ∀ n, (unit n j).sum = if j < n then 1 else 0 := by
        intro n
        induction n with
        | zero => simp [unit]
        | succ n ih =>
          have : unit (n + 1) j = unit n j ++ [if n = j then 1 else 0] := by
            unfold unit
            rw [List.range_succ, List.map_append]
            rfl
          rw [this, List.sum_append, ih]
          simp only [List.sum_cons, List.sum_nil]
          by_cases w : j < n
          · rw [if_pos w, if_neg (by omega), if_pos (by omega)]
            rfl
          · by_cases w2 : n = j
            · rw [if_neg w, if_pos w2, if_pos (by omega)]
              rfl
            · rw [if_neg w, if_neg w2, if_neg (by omega)]
              rfl
      rw [gen, if_pos (by omega)]
    omega
  · rw [if_neg e]
    rfl
theorem weigh_get (k : List Nat) (f : List Nat → Nat) : ∀ d : Tab, (keys d).Nodup → (∀ j ∈ keys d, f j = if j = k then 1 else 0) → weigh f d = (getT d k).getD 0
  | [], _, _ => rfl
  | e :: r, hn, h => by
    have hn' : e.1 ∉ keys r ∧ (keys r).Nodup := List.nodup_cons.mp hn
    have ih := weigh_get k f r hn'.2 fun j hj => h j (List.mem_cons.mpr (.inr hj))
    have e1 := h e.1 (List.mem_cons.mpr (.inl rfl))
    have w : weigh f (e :: r) = e.2 * f e.1 + weigh f r := rfl
    rw [w, ih, e1]
    by_cases q : e.1 = k
    · rw [if_pos q, getT_none (fun z => hn'.1 (by rw [q]; exact z))]
      simp [getT, q]
    · rw [if_neg q]
      simp [getT, q]
def tabAll (others : List (List Nat)) (room : List Nat) : Tab := dealAll others room
def placeOf (places : List Nat) (n : Nat) (d : Tab) : List Nat := (List.range n).map fun k => if places.contains k = true then (getT d (unit n k)).getD 0 else 0
def byPlace (others : List (List Nat)) (places room : List Nat) : List Nat := placeOf places room.length (dealAll others room)
theorem placeOf_len (places : List Nat) (n : Nat) (d : Tab) : (placeOf places n d).length = n := by simp [placeOf]
theorem placeOf_nil (places : List Nat) (n : Nat) : placeOf places n [] = List.replicate n 0 := by
  unfold placeOf
  apply List.ext_getElem (by simp)
  intro i h1 h2
  simp [getT]
theorem getT_snoc (d : Tab) (e : List Nat × Nat) (k : List Nat) : getT (d ++ [e]) k = (getT d k).or (if e.1 = k then some e.2 else none) := by
  unfold getT
  rw [List.find?_append]
  cases d.find? fun kv => decide (kv.1 = k) with
  | some x => rfl
  | none =>
    by_cases q : e.1 = k
    · simp [q]
    · simp [q]
theorem placeOf_more {places : List Nat} {n k v : Nat} {d : Tab} (hk : k < n) (hn : unit n k ∉ keys d) :
    placeOf places n (d ++ [(unit n k, v)]) = if places.contains k = true then (placeOf places n d).set k v else placeOf places n d := by
  have at_ : ∀ j, j < n → (getT (d ++ [(unit n k, v)]) (unit n j)).getD 0 = if j = k then v else (getT d (unit n j)).getD 0 := by
    intro j hj
    rw [getT_snoc]
    by_cases q : j = k
    · subst q
      rw [getT_none hn, if_pos rfl, if_pos rfl]
      rfl
    · rw [if_neg q, if_neg fun z => q (unit_inj hk z).symm, Option.or_none]
  by_cases c : places.contains k = true
  · rw [if_pos c]
    unfold placeOf
    apply List.ext_getElem (by simp)
    intro i h1 h2
    have hi : i < n := by simpa using h1
    rw [List.getElem_map, List.getElem_range, List.getElem_set, at_ i hi]
    by_cases q : i = k
    · subst q
      rw [if_pos rfl, if_pos rfl, if_pos c]
    · rw [if_neg q, if_neg (c := k = i) fun z => q z.symm, List.getElem_map, List.getElem_range]
  · rw [if_neg c]
    unfold placeOf
    apply List.map_congr_left
    intro i hi
    have hi' : i < n := List.mem_range.mp hi
    rw [at_ i hi']
    by_cases q : i = k
    · subst q
      rw [if_neg c, if_neg c]
    · rw [if_neg q]
theorem dealAll_keys (choices : List (List Nat)) (room : List Nat) : (keys (dealAll choices room)).Nodup := by
  have gen : ∀ (l : List (List Nat)) (ws : Tab), (keys ws).Nodup → (keys (l.foldl dealOne ws)).Nodup := by
    intro l
    induction l with
    | nil => intro ws h; exact h
    | cons o r ih => intro ws _; exact ih _ (dealOne_keys ws o)
  exact gen choices _ (by simp [keys])
theorem dealAll_good {choices : List (List Nat)} {room : List Nat} {n : Nat} (h : room.sum = choices.length + n) : Good room n (dealAll choices room) :=
  good_all choices n _ (good_start _ (by omega))
/-- **by place: the ways with the tile there** -/
theorem byPlace_is {others : List (List Nat)} {places room : List Nat} (h : room.sum = others.length + 1) :
    byPlace others places room = (List.range room.length).map fun k => if k ∈ places then ways (others ++ [[k]]) room else 0 := by
  unfold byPlace placeOf
  apply List.map_congr_left
  intro k hk
  have hk' : k < room.length := List.mem_range.mp hk
  have good := dealAll_good h
  have e : ways (others ++ [[k]]) room = (getT (dealAll others room) (unit room.length k)).getD 0 := by
    have w : weigh (ways (others ++ [[k]])) [(room, 1)] = ways (others ++ [[k]]) room := by simp [weigh]
    rw [← w, ← weigh_more [[k]] others]
    refine weigh_get _ _ _ (dealAll_keys others room) fun j hj => ?_
    obtain ⟨b, s⟩ := good j hj
    obtain ⟨p, hp, rfl⟩ := is_unit b.1 s
    rw [ways_unit hk']
    by_cases q : k = p
    · subst q
      rw [if_pos rfl, if_pos rfl]
    · rw [if_neg q, if_neg fun z => q (unit_inj hp z).symm]
  rw [e]
  by_cases c : k ∈ places
  · rw [if_pos c, if_pos (List.contains_iff_mem.mpr c)]
  · rw [if_neg c, if_neg fun z => c (List.contains_iff_mem.mp z)]
/-- of a hidden tile -/
def othersOf (s : State) (t : Tile) : List (List Nat) := (s.unseen.filter fun x => x != t).map s.owners
theorem byPlace_dealsWith {s : State} (h : Ok s) {t : Tile} (ht : t ∈ s.unseen) :
    byPlace (othersOf s t) (s.owners t) s.caps = (List.range (s.players + 1)).map fun k => s.dealsWith t k := by
  obtain ⟨a, b, e1, e2, ha, hb⟩ := mem_split ht (unseen_nodup h.top)
  have fl : s.unseen.filter (fun x => x != t) = a ++ b := by rw [← e2, (unseen_nodup h.top).erase_eq_filter]
  have len : s.caps.sum = (othersOf s t).length + 1 := by
    rw [h.sum, e1]
    unfold othersOf
    rw [fl]
    simp
    omega
  rw [byPlace_is len, caps_len]
  apply List.map_congr_left
  intro k _
  rw [dealsWith_eq]
  by_cases c : k ∈ s.owners t
  · rw [if_pos c, if_pos c]
    unfold othersOf
    rw [fl, ways_move, List.append_nil]
    have q : held s t k = a.map s.owners ++ [k] :: b.map s.owners := by
      unfold held
      rw [e1, List.map_append, List.map_cons, if_pos rfl]
      congr 1
      · apply List.map_congr_left
        intro x hx
        rw [if_neg]
        intro z
        exact ha (z ▸ hx)
      · congr 1
        apply List.map_congr_left
        intro x hx
        rw [if_neg]
        intro z
        exact hb (z ▸ hx)
    rw [q, ways_move, List.map_append]
  · rw [if_neg c, if_neg c]
end Dm
/-! ## DmHand0 -/
/-! The specification's show, as refusals come; hands as lists of pairs. -/
namespace Dm
open Kg86
set_option autoImplicit false
/-- the tiles told by two numbers each, as the program makes them: the lesser ahead -/
def twos : List Int → List (Int × Int)
  | x :: y :: r => (min x y, max x y) :: twos r
  | _ => []
def toTile (p : Int × Int) : Tile := ⟨p.1.toNat, p.2.toNat⟩
def hasT (s : State) (p : Int × Int) : Bool := decide (0 ≤ p.1) && decide (p.2 ≤ if s.left = [] then -1 else (s.top : Int))
theorem twos_le : ∀ (l : List Int), ∀ p ∈ twos l, p.1 ≤ p.2
  | [], p, h => absurd h (by simp [twos])
  | [_], p, h => absurd h (by simp [twos])
  | x :: y :: r, p, h => by
    rcases List.mem_cons.mp h with e | e
    · rw [e]
      show min x y ≤ max x y
      omega
    · exact twos_le r p e
theorem toTile_tl (x y : Int) : toTile (min x y, max x y) = tile x.toNat y.toNat := by
  unfold toTile tile
  show (⟨(min x y).toNat, (max x y).toNat⟩ : Tile) = _
  congr 1 <;> omega
theorem pairs_even {s : State} (h : Valid s) : ∀ (l : List Int) (m : Nat), l.length = 2 * m → pairsOf s l = if ((twos l).all (hasT s)) = true then some ((twos l).map toTile) else none
  | [], m, _ => rfl
  | [_], m, e => by
    simp at e
    omega
  | x :: y :: r, 0, e => by simp at e
  | x :: y :: r, m + 1, e => by
    have ih := pairs_even h r m (by simp at e; omega)
    show (if isTile s x y = true then (pairsOf s r).map fun q => tile x.toNat y.toNat :: q else none) = if ((min x y, max x y) :: twos r).all (hasT s) = true then some (((min x y, max x y) :: twos r).map toTile) else none
    have ht : isTile s x y = hasT s (min x y, max x y) := isTile_eq h x y
    rw [List.all_cons, ← ht, ih]
    by_cases c : isTile s x y = true
    · rw [if_pos c, c, Bool.true_and]
      by_cases d : (twos r).all (hasT s) = true
      · rw [if_pos d, if_pos d, List.map_cons, toTile_tl]
        rfl
      · rw [if_neg d, if_neg d]
        rfl
    · rw [if_neg c, Bool.eq_false_iff.mpr c, Bool.false_and, if_neg Bool.false_ne_true]
theorem pairs_odd (s : State) : ∀ (l : List Int), l.length % 2 = 1 → pairsOf s l = none
  | [], e => by simp at e
  | [_], _ => rfl
  | x :: y :: r, e => by
    have ih := pairs_odd s r (by simp at e; omega)
    show (if isTile s x y = true then (pairsOf s r).map fun q => tile x.toNat y.toNat :: q else none) = none
    rw [ih]
    split <;> rfl
/-- the choices with a hand held: who can't have a tile of it has no place for it -/
def handed (s : State) (r : List Tile) (k : Nat) : List (List Nat) := s.unseen.map fun x => if r.contains x = true then (s.owners x).filter (fun j => decide (j = k)) else s.owners x
theorem handed_ways {s : State} {r : List Tile} {k : Nat} (hk : ∀ t ∈ r, k ∈ s.owners t) : handed s r k = heldAll s r k := by
  unfold handed heldAll
  apply List.map_congr_left
  intro x _
  by_cases c : r.contains x = true
  · rw [if_pos c, if_pos c]
    have m := hk x (List.contains_iff_mem.mp c)
    rw [owners_eq] at m ⊢
    cases q : s.known.find? fun y => y.1 == x with
    | some y =>
      rw [q] at m
      have : k = y.2 := List.mem_singleton.mp m
      simp [this]
    | none =>
      rw [q] at m
      have nd : (byPasses s x).Nodup := List.Pairwise.filter _ List.nodup_range
      have gen : ∀ l : List Nat, l.Nodup → k ∈ l → l.filter (fun j => decide (j = k)) = [k] := by
        intro l
        induction l with
        | nil => intro _ h; exact absurd h (by simp)
        | cons a l ih =>
          intro hn hm
          have hn' := List.nodup_cons.mp hn
          by_cases e : a = k
          · subst e
            have : l.filter (fun j => decide (j = a)) = [] := by
              rw [List.filter_eq_nil_iff]
              intro j hj z
              have : j = a := of_decide_eq_true z
              exact hn'.1 (this ▸ hj)
            rw [List.filter_cons_of_pos (by simp), this]
          · have hm' : k ∈ l := by
              rcases List.mem_cons.mp hm with z | z
              · exact absurd z.symm e
              · exact z
            rw [List.filter_cons_of_neg (by simpa using e), ih hn'.2 hm']
      exact gen _ nd m
  · rw [if_neg c, if_neg c]
theorem handed_none {s : State} {r : List Tile} {k : Nat} {t : Tile} (ht : t ∈ r) (hu : t ∈ s.unseen) (hk : k ∉ s.owners t) : ways (handed s r k) s.caps = 0 := by
  apply ways_none_mem
  unfold handed
  refine List.mem_map.mpr ⟨t, hu, ?_⟩
  rw [if_pos (List.contains_iff_mem.mpr ht), List.filter_eq_nil_iff]
  intro j hj z
  have : j = k := of_decide_eq_true z
  exact hk (this ▸ hj)
theorem handed_count {s : State} (h : Ok s) (r : List Tile) (k : Nat) : count (handed s r k) s.caps = ways (handed s r k) s.caps := by
  rw [count_ways]
  rw [h.sum]
  unfold handed
  rw [List.length_map]
def handRef (s : State) (k : Nat) (ps : List (Int × Int)) : Int :=
  if (!ps.all (hasT s)) = true then -1
  else if (s.shown.lookup k).isSome = true then -5
  else if (!decide ((ps.map toTile).length = s.left.getD k 0) || !decide (ps.map toTile).Nodup) = true then -4
  else if ((ps.map toTile).any fun t => !s.unseen.contains t) = true then -4
  else if ways (handed s (ps.map toTile) k) s.caps = 0 then -7 else 0
def showRef (s : State) (k : Int) (l : List Int) : Int :=
  if (decide (0 ≤ k) && decide (k < (s.left.length : Int))) = false then -1
  else if s.over = false then -3
  else if l.length % 2 = 1 then -1
  else handRef s k.toNat (twos l)
theorem spec_show {s : State} (hv : Valid s) (k : Int) (l : List Int) : spec s (.show_ k l) = if showRef s k l < 0 then (s, num (showRef s k l))
    else (shownBy s k.toNat ((twos l).map toTile), ⟨(pips ((twos l).map toTile) : Nat), [((s.shown.length + 1 : Nat) : Int)]⟩) := by
  unfold showRef
  have ew : within k 0 ((s.players : Int) - 1) = (decide (0 ≤ k) && decide (k < (s.left.length : Int))) := by
    rw [Bool.eq_iff_iff, within_iff, Bool.and_eq_true, decide_eq_true_eq, decide_eq_true_eq]
    unfold State.players
    omega
  show (if within k 0 ((s.players : Int) - 1) = false then (s, num (-1)) else if s.over = false then (s, num (-3)) else match pairsOf s l with
    | none => (s, num (-1))
    | some r =>
      if (s.shown.lookup k.toNat).isSome = true then (s, num (-5))
      else if r.length ≠ s.left.getD k.toNat 0 ∨ decide r.Nodup = false ∨ (r.all fun t => s.unseen.contains t) = false then (s, num (-4))
      else if (r.all fun t => (s.owners t).contains k.toNat) = false then (s, num (-7))
      else fitting s (shownBy s k.toNat r) ⟨(pips r : Nat), [((shownBy s k.toNat r).shown.length : Int)]⟩) = _
  rw [ew]
  by_cases c1 : (decide (0 ≤ k) && decide (k < (s.left.length : Int))) = false
  · rw [if_pos c1, if_pos c1]
    rfl
  rw [if_neg c1, if_neg c1]
  by_cases c2 : s.over = false
  · rw [if_pos c2, if_pos c2]
    rfl
  rw [if_neg c2, if_neg c2]
  by_cases c3 : l.length % 2 = 1
  · rw [if_pos c3, pairs_odd s l c3]
    rfl
  rw [if_neg c3, pairs_even hv l (l.length / 2) (by omega)]
  unfold handRef
  generalize twos l = ps
  by_cases c4 : ps.all (hasT s) = true
  · rw [if_pos c4, c4]
    generalize ps.map toTile = r
    show (if (s.shown.lookup k.toNat).isSome = true then (s, num (-5))
      else if r.length ≠ s.left.getD k.toNat 0 ∨ decide r.Nodup = false ∨ (r.all fun t => s.unseen.contains t) = false then (s, num (-4))
      else if (r.all fun t => (s.owners t).contains k.toNat) = false then (s, num (-7))
      else fitting s (shownBy s k.toNat r) ⟨(pips r : Nat), [((shownBy s k.toNat r).shown.length : Int)]⟩) = _
    rw [if_neg (show ¬ (!true) = true by decide)]
    by_cases c5 : (s.shown.lookup k.toNat).isSome = true
    · rw [if_pos c5, if_pos c5]
      rfl
    rw [if_neg c5, if_neg c5]
    by_cases c6 : (!decide (r.length = s.left.getD k.toNat 0) || !decide r.Nodup) = true
    · have c6' : r.length ≠ s.left.getD k.toNat 0 ∨ decide r.Nodup = false ∨ (r.all fun t => s.unseen.contains t) = false := by
        rw [Bool.or_eq_true, Bool.not_eq_true', Bool.not_eq_true', decide_eq_false_iff_not] at c6
        rcases c6 with z | z
        · exact .inl z
        · exact .inr (.inl z)
      rw [if_pos c6', if_pos c6]
      rfl
    rw [if_neg c6]
    have c6b := Bool.or_eq_false_iff.mp (Bool.eq_false_iff.mpr c6)
    have e1 : r.length = s.left.getD k.toNat 0 := by simpa using c6b.1
    have e2 : decide r.Nodup = true := by simpa using c6b.2
    by_cases c7 : (r.any fun t => !s.unseen.contains t) = true
    · have c7' : (r.all fun t => s.unseen.contains t) = false := by
        rw [List.any_eq_true] at c7
        obtain ⟨t, ht, z⟩ := c7
        rw [List.all_eq_false]
        exact ⟨t, ht, by simpa using z⟩
      rw [if_pos (.inr (.inr c7')), if_pos c7]
      rfl
    have un : ∀ t ∈ r, t ∈ s.unseen := fun t ht => by
      have := List.any_eq_false.mp (Bool.eq_false_iff.mpr c7) t ht
      exact List.contains_iff_mem.mp (by simpa using this)
    have c7' : ¬ (r.length ≠ s.left.getD k.toNat 0 ∨ decide r.Nodup = false ∨ (r.all fun t => s.unseen.contains t) = false) := by
      rintro (z | z | z)
      · exact z e1
      · rw [e2] at z
        exact absurd z (by decide)
      · rw [List.all_eq_false] at z
        obtain ⟨t, ht, w⟩ := z
        exact w (List.contains_iff_mem.mpr (un t ht))
    rw [if_neg c7', if_neg c7]
    by_cases c8 : (r.all fun t => (s.owners t).contains k.toNat) = false
    · rw [if_pos c8]
      rw [List.all_eq_false] at c8
      obtain ⟨t, ht, w⟩ := c8
      rw [handed_none ht (un t ht) fun z => w (List.contains_iff_mem.mpr z)]
      rfl
    · rw [if_neg c8]
      have ow : ∀ t ∈ r, k.toNat ∈ s.owners t := fun t ht => List.contains_iff_mem.mp (List.all_eq_true.mp (eqT c8) t ht)
      rw [handed_ways ow]
      unfold fitting
      rw [deals_shown]
      by_cases c9 : ways (heldAll s r k.toNat) s.caps = 0
      · rw [if_pos c9, if_pos c9]
        rfl
      · rw [if_neg c9, if_neg c9, if_neg (by decide)]
        show (_, (⟨_, [(((s.shown ++ [(k.toNat, r)]).length : Nat) : Int)]⟩ : Ans)) = _
        rw [List.length_append]
        rfl
  · rw [if_neg c4, Bool.eq_false_iff.mpr c4]
    rfl
theorem showRef_pos {s : State} (hv : Valid s) {k : Int} {l : List Int} (h : ¬ showRef s k l < 0) : Ok s ∧ (0 ≤ k ∧ k < (s.left.length : Int)) ∧ s.over = true ∧ l.length % 2 = 0 ∧ (twos l).all (hasT s) = true ∧ s.shown.lookup k.toNat = none ∧
    ((twos l).map toTile).Nodup ∧ ∀ t ∈ (twos l).map toTile, t ∈ s.unseen := by
  unfold showRef at h
  by_cases c1 : (decide (0 ≤ k) && decide (k < (s.left.length : Int))) = false
  · rw [if_pos c1] at h
    exact absurd (by decide) h
  rw [if_neg c1] at h
  by_cases c2 : s.over = false
  · rw [if_pos c2] at h
    exact absurd (by decide) h
  rw [if_neg c2] at h
  by_cases c3 : l.length % 2 = 1
  · rw [if_pos c3] at h
    exact absurd (by decide) h
  rw [if_neg c3] at h
  unfold handRef at h
  by_cases c4 : (!(twos l).all (hasT s)) = true
  · rw [if_pos c4] at h
    exact absurd (by decide) h
  rw [if_neg c4] at h
  by_cases c5 : (s.shown.lookup k.toNat).isSome = true
  · rw [if_pos c5] at h
    exact absurd (by decide) h
  rw [if_neg c5] at h
  by_cases c6 : (!decide (((twos l).map toTile).length = s.left.getD k.toNat 0) || !decide ((twos l).map toTile).Nodup) = true
  · rw [if_pos c6] at h
    exact absurd (by decide) h
  rw [if_neg c6] at h
  by_cases c7 : (((twos l).map toTile).any fun t => !s.unseen.contains t) = true
  · rw [if_pos c7] at h
    exact absurd (by decide) h
  have a := eqT c1
  rw [Bool.and_eq_true, decide_eq_true_eq, decide_eq_true_eq] at a
  have c6b := Bool.or_eq_false_iff.mp (Bool.eq_false_iff.mpr c6)
  have ok : Ok s := hv.ok fun e => by
    rw [e] at a
    have := a.2
    simp at this
    omega
  refine ⟨ok, a, eqT c2, by omega, by simpa using c4, ?_, by simpa using c6b.2, fun t ht => ?_⟩
  · cases q : s.shown.lookup k.toNat with
    | none => rfl
    | some x => rw [q] at c5; exact absurd rfl c5
  · have := List.any_eq_false.mp (Bool.eq_false_iff.mpr c7) t ht
    exact List.contains_iff_mem.mp (by simpa using this)

/-! ### of lists without doubles -/
theorem sub_len {α : Type} [DecidableEq α] : ∀ (l m : List α), l.Nodup → (∀ x ∈ l, x ∈ m) → l.length ≤ m.length
  | [], _, _, _ => Nat.zero_le _
  | a :: r, m, hn, h => by
    have hn' := List.nodup_cons.mp hn
    have ha := h a (List.mem_cons.mpr (.inl rfl))
    have ih := sub_len r (m.erase a) hn'.2 fun x hx => by
      have hxa : x ≠ a := fun e => hn'.1 (e ▸ hx)
      exact (List.mem_erase_of_ne hxa).mpr (h x (List.mem_cons.mpr (.inr hx)))
    rw [List.length_erase_of_mem ha] at ih
    have : 0 < m.length := List.length_pos_of_mem ha
    rw [List.length_cons]
    omega
theorem twice {α : Type} [DecidableEq α] : ∀ B : List α, ¬ B.Nodup → ∃ x, x ∈ B ∧ x ∈ B.erase x
  | [], h => absurd List.nodup_nil h
  | a :: r, h => by
    by_cases m : a ∈ r
    · exact ⟨a, List.mem_cons.mpr (.inl rfl), by rw [List.erase_cons_head]; exact m⟩
    · have hr : ¬ r.Nodup := fun z => h (List.nodup_cons.mpr ⟨m, z⟩)
      obtain ⟨x, h1, h2⟩ := twice r hr
      have ne : a ≠ x := fun e => m (e ▸ h1)
      exact ⟨x, List.mem_cons.mpr (.inr h1), by rw [List.erase_cons_tail (by simpa using ne)]; exact List.mem_cons.mpr (.inr h2)⟩
theorem set_len {α : Type} [DecidableEq α] {A B : List α} (hA : A.Nodup) (h1 : ∀ x ∈ A, x ∈ B) (h2 : ∀ x ∈ B, x ∈ A) : A.length = B.length ↔ B.Nodup := by
  constructor
  · intro e
    refine Decidable.byContradiction fun n => ?_
    obtain ⟨x, hx, hx2⟩ := twice B n
    have := sub_len A (B.erase x) hA fun y hy => by
      by_cases w : y = x
      · rw [w]
        exact hx2
      · exact (List.mem_erase_of_ne w).mpr (h1 y hy)
    rw [List.length_erase_of_mem hx] at this
    have : 0 < B.length := List.length_pos_of_mem hx
    omega
  · intro n
    have a := sub_len A B hA h1
    have b := sub_len B A n h2
    omega
end Dm
/-! ## DmFlat -/
/-! The list of calls, taken one by one as the program takes it. -/
namespace Dm
open Kg86
set_option autoImplicit false
/-- how many numbers stand behind a call's own -/
def lenOf (p : Int) : Option Nat := if p = 1 then some 4 else if p = 2 then some 3 else if p = 3 then some 3 else if p = 4 then some 0 else if p = 5 then some 0 else if p = 6 then some 2 else if p = 7 then some 1 else if p = 8 then some 0 else if p = 9 then some 0 else if p = 10 then some 0 else none
/-- a call by its number, its numbers and its row -/
def toCall (p : Int) (ns row : List Int) : Option Kg86.Call := match ns with
  | [a, b, c, d] => if p = 1 then some (.begin_ a b c d) else none
  | [a, b, c] => if p = 2 then some (.know a b c) else if p = 3 then some (.play a b c) else none
  | [a, b] => if p = 6 then some (.may a b) else none
  | [a] => if p = 7 then some (.show_ a row) else none
  | [] => if p = 4 then some .pass else if p = 5 then some .deals else if p = 8 then some .score else if p = 9 then some .now else if p = 10 then some .line else none
  | _ => none
/-- the next call, as it stands in the list -/
structure Next (rest : List Int) (c : List (List Int)) (t : List Int) (p : Int) (n : Nat) (row : List Int) (k : Kg86.Call) : Prop where
  len : lenOf p = some n
  fits : n ≤ rest.length
  call : toCall p (rest.take n) row = some k
  word : Kg86Neutral.callOf c = some k
  short : row.length ≤ 20
  plain : p ≠ 7 → row = [] ∧ t = rest.drop n
  show_ : p = 7 → ∃ m, (rest.drop n)[0]? = some m ∧ 0 ≤ m ∧ m.toNat ≤ (rest.drop n).length - 1 ∧ row = ((rest.drop n).drop 1).take m.toNat ∧ t = ((rest.drop n).drop 1).drop m.toNat
theorem shape_len {p : Int} {q : Nat × Nat} (h : PyKg86.shape p = some q) : lenOf p = some q.1 ∧ (q.2 = if p = 7 then 1 else 0) := by
  unfold PyKg86.shape at h
  unfold lenOf
  by_cases c1 : p = 1
  · subst c1; cases h; exact ⟨rfl, rfl⟩
  by_cases c2 : p = 2
  · subst c2; cases h; exact ⟨rfl, rfl⟩
  by_cases c3 : p = 3
  · subst c3; cases h; exact ⟨rfl, rfl⟩
  by_cases c4 : p = 4
  · subst c4; cases h; exact ⟨rfl, rfl⟩
  by_cases c5 : p = 5
  · subst c5; cases h; exact ⟨rfl, rfl⟩
  by_cases c6 : p = 6
  · subst c6; cases h; exact ⟨rfl, rfl⟩
  by_cases c7 : p = 7
  · subst c7; cases h; exact ⟨rfl, rfl⟩
  by_cases c8 : p = 8
  · subst c8; cases h; exact ⟨rfl, rfl⟩
  by_cases c9 : p = 9
  · subst c9; cases h; exact ⟨rfl, rfl⟩
  by_cases c10 : p = 10
  · subst c10; cases h; exact ⟨rfl, rfl⟩
  rw [if_neg c1, if_neg c2, if_neg c3, if_neg c4, if_neg c5, if_neg c6, if_neg c7, if_neg c8, if_neg c9, if_neg c10] at h
  exact absurd h (by simp)
theorem asked_call {c : List (List Int)} (h : Kg86Neutral.asked1 c = true) : ∃ k, Kg86Neutral.callOf c = some k := by
  unfold Kg86Neutral.asked1 at h
  unfold Kg86Neutral.callOf
  split at h <;> first | exact ⟨_, rfl⟩ | exact absurd h (by decide)
/-- a call without a row -/
theorem call_plain {p : Int} {x : List Int} {k : Kg86.Call} (h : Kg86Neutral.callOf [p :: x] = some k) : toCall p x [] = some k := by
  unfold Kg86Neutral.callOf at h
  split at h <;> first | (cases h; done) | (rename_i e; injection e with e _; injection e with e1 e2; subst e1 e2; exact h) | (rename_i e; exact absurd e (by simp))
theorem call_row {p : Int} {x l : List Int} {k : Kg86.Call} (h : Kg86Neutral.callOf [p :: x, l] = some k) : toCall p x l = some k := by
  unfold Kg86Neutral.callOf at h
  split at h <;> first | (cases h; done) | (rename_i e; injection e with e e2; injection e with e1 e3; injection e2 with e2 _; subst e1 e3 e2; exact h) | (rename_i e; exact absurd e (by simp))
theorem asked_row {p : Int} {x l : List Int} (h : Kg86Neutral.asked1 [p :: x, l] = true) : l.length ≤ 20 := by
  unfold Kg86Neutral.asked1 at h
  split at h <;> first | (cases h; done) | (rename_i e; injection e with e e2; injection e2 with e2 _; subst e2; unfold Kg86Neutral.row at h; simp only [Bool.and_eq_true, decide_eq_true_eq] at h; exact h.2.2) | (rename_i e; exact absurd e (by simp))
theorem next_of {f : Nat} {p : Int} {rest : List Int} {cs : List (List (List Int))} (h : PyFlat.calls PyKg86.shape f (p :: rest) = some cs) (ha : cs.all Kg86Neutral.asked1 = true) :
    ∃ (f' : Nat) (c : List (List Int)) (cs' : List (List (List Int))) (t : List Int) (n : Nat) (row : List Int) (k : Kg86.Call), cs = c :: cs' ∧ PyFlat.calls PyKg86.shape f' t = some cs' ∧ Next rest c t p n row k := by
  cases f with
  | zero => exact absurd h (by simp [PyFlat.calls])
  | succ f =>
    unfold PyFlat.calls at h
    cases e : PyFlat.call PyKg86.shape (p :: rest) with
    | none => rw [e] at h; exact absurd h (by simp)
    | some ct =>
      obtain ⟨c, t⟩ := ct
      rw [e] at h
      cases e2 : PyFlat.calls PyKg86.shape f t with
      | none => simp [e2] at h
      | some cs' =>
        have h' : c :: cs' = cs := by simpa [e2] using h
        subst h'
        rw [List.all_cons, Bool.and_eq_true] at ha
        have e0 : (match PyKg86.shape p with
          | none => none
          | some (n, k) => if rest.length < n then none else match PyFlat.rows k (rest.drop n) with
            | none => none
            | some (xs, t) => some ((p :: rest.take n) :: xs, t)) = some (c, t) := e
        cases e3 : PyKg86.shape p with
        | none => rw [e3] at e0; exact absurd e0 (by simp)
        | some q =>
          obtain ⟨n, r⟩ := q
          obtain ⟨hl, hr⟩ := shape_len e3
          rw [e3] at e0
          have e' : (if rest.length < n then none else match PyFlat.rows r (rest.drop n) with
            | none => none
            | some (xs, t) => some ((p :: rest.take n) :: xs, t)) = some (c, t) := e0
          by_cases hn : rest.length < n
          · rw [if_pos hn] at e'
            exact absurd e' (by simp)
          rw [if_neg hn] at e'
          obtain ⟨k, hk⟩ := asked_call ha.1
          by_cases c7 : p = 7
          · rw [if_pos c7] at hr
            have hr' : r = 1 := hr
            subst hr'
            unfold PyFlat.rows at e'
            cases e4 : PyFlat.row (rest.drop n) with
            | none => rw [e4] at e'; exact absurd e' (by simp)
            | some xs =>
              obtain ⟨x, s⟩ := xs
              rw [e4] at e'
              have e5 : some ((p :: rest.take n) :: [x], s) = some (c, t) := e'
              injection e5 with e5
              injection e5 with e5 e6
              subst e5 e6
              unfold PyFlat.row at e4
              cases e7 : rest.drop n with
              | nil => rw [e7] at e4; exact absurd e4 (by simp)
              | cons m more =>
                rw [e7] at e4
                have e8 : (if 0 ≤ m ∧ m.toNat ≤ more.length then some (more.take m.toNat, more.drop m.toNat) else none) = some (x, s) := e4
                by_cases hm : 0 ≤ m ∧ m.toNat ≤ more.length
                · rw [if_pos hm] at e8
                  injection e8 with e8
                  injection e8 with e8 e9
                  subst e8 e9
                  refine ⟨f, _, cs', _, n, more.take m.toNat, k, rfl, e2, ⟨hl, by omega, call_row hk, hk, asked_row ha.1, fun z => absurd c7 z, fun _ => ⟨m, ?_, hm.1, ?_, ?_, ?_⟩⟩⟩
                  · rw [e7]
                    rfl
                  · rw [e7]
                    exact hm.2
                  · rw [e7]
                    rfl
                  · rw [e7]
                    rfl
                · rw [if_neg hm] at e8
                  exact absurd e8 (by simp)
          · rw [if_neg c7] at hr
            have hr' : r = 0 := hr
            subst hr'
            have e5 : some ([p :: rest.take n], rest.drop n) = some (c, t) := e'
            injection e5 with e5
            injection e5 with e5 e6
            subst e5 e6
            exact ⟨f, _, cs', _, n, [], k, rfl, e2, ⟨hl, by omega, call_plain hk, hk, Nat.zero_le _, fun _ => ⟨rfl, rfl⟩, fun z => absurd z c7⟩⟩
theorem whole_is (c : List (List Int)) : PyKg86.whole c = c := by
  unfold PyKg86.whole
  split <;> rfl
theorem wholes (cs : List (List (List Int))) : cs.map PyKg86.whole = cs := by
  have : PyKg86.whole = id := by
    funext c
    exact whole_is c
  rw [this, List.map_id]
/-- what is due from a state on -/
def dueFrom (s : State) (cs : List (List (List Int))) : List Int := PyFlat.told (PyFlat.played Kg86Neutral.step s cs)
theorem due_cons {s : State} {c : List (List Int)} {cs : List (List (List Int))} {k : Kg86.Call} (h : Kg86Neutral.callOf c = some k) :
    dueFrom s (c :: cs) = (((spec s k).2.value :: (spec s k).2.out).length : Int) :: ((spec s k).2.value :: (spec s k).2.out) ++ dueFrom (spec s k).1 cs := by
  have e : Kg86Neutral.step s c = ((spec s k).1, (spec s k).2.value :: (spec s k).2.out) := by
    unfold Kg86Neutral.step
    rw [h]
  unfold dueFrom
  rw [PyFlat.played, e]
  unfold PyFlat.told
  rw [List.flatMap_cons]
theorem asked_parts {l : List Int} (h : PyKg86.answers_asked l = true) : ∃ cs, PyFlat.calls PyKg86.shape l.length l = some cs ∧ cs.all Kg86Neutral.asked1 = true ∧ (PyKg86.answers l).length ≤ 10000000 ∧ PyKg86.answers l = dueFrom Kg86.init cs := by
  unfold PyKg86.answers_asked at h
  cases e : PyFlat.calls PyKg86.shape l.length l with
  | none => rw [e] at h; exact absurd h (by simp)
  | some cs =>
    rw [e] at h
    have h' : (!cs.isEmpty && PyFlat.atMost 60 cs && PyInside.calls PyKg86.bound cs && Kg86Neutral.asked (cs.map PyKg86.whole) && PyFlat.short 10000000 (PyKg86.answers l)) = true := h
    rw [Bool.and_eq_true, Bool.and_eq_true, wholes] at h'
    refine ⟨cs, rfl, ?_, ?_, ?_⟩
    · have := h'.1.2
      unfold Kg86Neutral.asked at this
      rw [Bool.and_eq_true] at this
      exact this.1
    · have := h'.2
      unfold PyFlat.short at this
      exact of_decide_eq_true this
    · unfold PyKg86.answers PyKg86.calls
      rw [e]
      show PyFlat.told (PyFlat.played Kg86Neutral.step Kg86Neutral.start (cs.map PyKg86.whole)) = _
      rw [wholes]
      rfl
theorem calls_nil {f : Nat} {cs : List (List (List Int))} (h : PyFlat.calls PyKg86.shape f [] = some cs) : cs = [] := by
  cases f with
  | zero => simpa [PyFlat.calls] using h.symm
  | succ f => simpa [PyFlat.calls] using h.symm
end Dm
/-! ## DmRules -/
/-! Rules that the layer lacks: sum of a dict's values where its keys are tuples; a written dict of such a key; remove of a tuple from a list; pop of such a key; an item of a written dict by a number. -/
namespace Dm
open PySem PySem.Spec PyProof.Rows L2

/-! ### sum(d.values()) -/
section
variable {prog : Program} {w : World} {A : Around} {E : Value → Shared → Prop} {s : Shared} {Q : Value → Shared → Prop}
theorem sum_src {T : String} {r d : Addr} {n : Nat} {P : Nat → Value → Prop} {OK : Heap → Prop} (src : PySem.W.KdlSrc prog w T r d n P OK)
    (calm : A.handled = none) (ok : OK s.heap) (f : Nat → Int)
    (whole_ : ∀ (i : Nat) (v : Value), P i v → ∃ t : Tok, v = Value.int (f i) t)
    (go : ∀ (g : Heap) (k : Nat) (t : Tok), (∀ b o, s.heap.get? b = some o → g.get? b = some o) → Q (.int (preSum f n) t) { s with heap := g, toks := k }) :
    wpAny (model prog w) A (call (.builtin "sum") [.ref r]) Q E s := by
  obtain ⟨oI, St, hit, W, st⟩ := src.iter A.in1 s calm ok
  apply call_sum_walkAnyS
  apply hit
  refine ⟨_, _, _, _, n, P, _, f, rfl, W.toS, st, ?_, whole_, ?_⟩
  · intro b hb
    have big : b ≤ s.heap.objs.size := by
      simp only [List.mem_cons, List.not_mem_nil, or_false] at hb
      rcases hb with e | e
      · exact Nat.le_of_eq e
      · rw [e]
        exact Nat.le_of_lt (src.there _ ok).2
    have sz : (s.heap.push oI).objs.size = s.heap.objs.size + 1 := Heap.size_push _ _
    show b < (s.heap.push oI).objs.size
    rw [sz]
    exact Nat.lt_succ_of_le big
  · intro s' t' moved
    have stay : ∀ b o, s.heap.get? b = some o → s'.heap.get? b = some o := by
      intro b o e
      refine moved.heap b o ?_ (Heap.get?_push_of_some _ e)
      intro hb
      have lt := Heap.lt_size e
      simp only [List.mem_cons, List.not_mem_nil, or_false] at hb
      rw [hb] at lt
      exact absurd lt (Nat.lt_irrefl _)
    rw [Moved.eq_with moved]
    exact go _ _ _ stay
end
theorem preSum_at (l : List Int) : ∀ n, n ≤ l.length → preSum (fun i => l.getD i 0) n = (l.take n).sum
  | 0, _ => by simp [preSum]
  | n + 1, h => by
    have lt : n < l.length := h
    rw [preSum, preSum_at l n (Nat.le_of_lt lt), List.take_succ, List.sum_append, List.getElem?_eq_getElem lt, List.getD_eq_getElem?_getD, List.getElem?_eq_getElem lt]
    simp
theorem KT_vals {H : Hp} {kvs : List (List Key × V)} {xs : List (List Key × Addr × Value)} (r : KT H kvs xs) {ns : List Int} (e : kvs.map (·.2) = ns.map V.int) :
    ∀ (i : Nat) (x : List Key × Addr × Value), xs[i]? = some x → ∃ t, x.2.2 = Value.int (ns.getD i 0) t := by
  induction r generalizing ns with
  | nil =>
    intro i x h
    exact absurd h (by simp)
  | @cons p q ps qs h t ih =>
    cases ns with
    | nil => exact absurd e (by simp)
    | cons n ns =>
      rw [List.map_cons, List.map_cons] at e
      injection e with e1 e2
      intro i x hx
      cases i with
      | zero =>
        have : q = x := by simpa using hx
        subst this
        have hr := h.2.2
        rw [e1] at hr
        obtain ⟨tk, z⟩ := (show ∃ tk, q.2.2 = Value.int n tk from hr)
        exact ⟨tk, by simpa using z⟩
      | succ i =>
        obtain ⟨tk, z⟩ := ih e2 i x (by simpa using hx)
        exact ⟨tk, by simpa using z⟩
/-- sum(o.values()), a dict of tuple keys, its values whole numbers -/
def tSumVals (td : TE) : TE := fun σ H Q => td σ H fun x H1 => ∃ (a : Addr) (kvs : List (List Key × V)) (ns : List Int), x = V.ref a ∧ H1 a = some (.dT kvs) ∧ kvs.map (·.2) = ns.map V.int ∧ Q (.int ns.sum) H1
section
variable {X : Cx} {o : Expr} {p pos apos mpos : Pos} {td : TE}
theorem pe_sumVals (calm : X.calm = true) (hg : Gl X "sum") (hm : X.mg "sum" = none) (hd : PE X o td)
    (hb : attributeBase o "values" X.env (eval o X.env) = eval o X.env := by rfl) (hl : (apos.endLine == mpos.line) = true := by rfl)
    (hst : starEach [Expr.Call (.Attribute o "values" apos) [] [] mpos] X.env = [(false, eval (Expr.Call (.Attribute o "values" apos) [] [] mpos) X.env)] := by rfl) :
    PE X (.Call (.Name "sum" p) [.Call (.Attribute o "values" apos) [] [] mpos] [] pos) (tSumVals td) := by
  constructor
  intro pins s σ H Q I h
  apply wpAny_Call_Name_kw
  apply ld_blt I hg hm (u := .builtin "sum") boot_sum
  · rw [hst]
    apply PySem.callWith_builtin1
    apply wpAny_Call_method0_late hb hl
    apply thn (hd.run pins s σ H _ I h)
    rintro v s1 ⟨x, H1, I1, r1, a, kvs, ns, ex, ha, hv, q⟩
    subst ex
    cases (show v = Value.ref a from r1)
    obtain ⟨_, low, xs, rel, dd⟩ := dt_of I1.hok ha
    obtain ⟨ob, es, ep, ho, hc, hdat, hkeys, hfull, hnd⟩ := dd
    refine ⟨"dict", "dict.values", PySem.F.plainAttrs_dict, PySem.F.slot_dict_values, PySem.F.type_dict_values, ⟨ob, ho, hc.1⟩, ?_, ?_⟩
    · intro b e
      cases e
      exact ⟨ob, ho, hc.2.1⟩
    · apply Calls.callWith_builtin rfl
      apply PySem.evalArgs_none
      have raw : s1.heap.DictRaw a es ep := ⟨ob, ho, hc, hdat⟩
      refine call_meetsIn PySem.F.slot_dict_values ⟨ob, ho, hc.1⟩ PySem.F.entry_dict_values (PySem.F.args_dict_values_1 _) (meets_dict_values_raw a low) ⟨⟨es, ep, raw⟩, ?_⟩
      have hes : ∀ (i : Nat) (v : Value), (∃ hi : i < es.size, v = es[i].val) → ∃ t : Tok, v = Value.int (ns.getD i 0) t := by
        rintro i v ⟨hi, rfl⟩
        have hx : i < xs.length := by
          have := congrArg List.length hkeys
          rw [List.length_map, Array.length_toList] at this
          omega
        obtain ⟨t, z⟩ := KT_vals rel hv i xs[i] (List.getElem?_eq_getElem hx)
        refine ⟨t, ?_⟩
        have g : es.toList[i]? = some (entryOfKey (tupleKind (mixKind X.prog X.w)) xs[i]) := by
          rw [hkeys, List.getElem?_map, List.getElem?_eq_getElem hx]
          rfl
        rw [Array.getElem?_toList, Array.getElem?_eq_getElem hi] at g
        rw [Option.some.inj g, ← z]
        rfl
      have hlen : es.size = ns.length := by
        have e1 := congrArg List.length hkeys
        have e2 := congrArg List.length hv
        have e3 := Paired.length rel
        rw [List.length_map, Array.length_toList] at e1
        rw [List.length_map, List.length_map] at e2
        omega
      refine sum_src (PySem.KdlSrc.rawValues (r := s1.heap.objs.size) (d := a) (es := es) (ep := ep)) (I.ok.hd calm) ⟨⟨_, Heap.get?_push_size _ rfl, rfl, rfl⟩, raw.push _⟩ (fun i => ns.getD i 0) hes ?_
      intro g k t stay
      rw [hlen, preSum_at ns _ (Nat.le_refl _), List.take_length]
      exact ⟨.int ns.sum, H1, I1.kept (t' := k) fun b u e => stay b u (Heap.get?_push_of_some _ e), ⟨t, rfl⟩, q⟩
end

/-! ### {k: v}, one key, a tuple; the new dict stands empty while they are made -/
def tDisp1 (tk tv : TE) : TE := fun σ H Q => ∀ p, H p = none → tk σ (upd H p (.dT [])) fun x H1 => tv σ H1 fun y H2 => H2 p = some (.dT []) ∧ ∃ (b : Addr) (k : List Key), x = .ref b ∧ H2 b = some (.tup (k.map kV)) ∧ Q (.ref p) (upd H2 p (.dT [(k, y)]))
section
variable {X : Cx} {k v : Expr} {pos : Pos} {tk tv : TE}
theorem pe_disp1 (hu : X.A.units + 1 < cLine) (hk : PE X k tk) (hv : PE X v tv) : PE X (.Dict [some k] [v] pos) (tDisp1 tk tv) := by
  constructor
  intro pins s σ H Q I h
  have free := I.hok.fresh (Nat.le_refl s.heap.objs.size)
  have I0 := I.laid (a := s.heap.objs.size) (o := .dT []) (h' := s.heap.push { cls := .type "dict", data := .dict #[] }) (t' := s.toks) (fun _ _ q => Heap.get?_push_of_some _ q) (Nat.le_refl _) (dt_empty s.heap I.big)
  refine wpAny_Dict_any (by rfl) (by rfl) (by simp) (by simp) ?_
  apply pairTrees_cons_walk
  apply thn (hk.run pins _ σ _ _ I0 (h _ free))
  rintro u s1 ⟨x, H1, I1, rx, q1⟩
  apply thn (hv.run pins s1 σ H1 _ I1 q1)
  rintro uv s2 ⟨y, H2, I2, ry, hd, b, ks, ex, hb, q2⟩
  subst ex
  cases (show u = Value.ref b from rx)
  apply pairTrees_nil_walk
  unfold storeAll
  rw [List.forIn_cons]
  obtain ⟨_, low, xs, rel, dd⟩ := dt_of I2.hok hd
  cases rel
  apply wpAny_bind
  apply wpAny_bind
  refine wpAny_dictSet_heap (knd := tupleKind (mixKind X.prog X.w)) (Nat.lt_of_le_of_lt (Nat.le_succ _) hu) (key_of I2.hok hb) dd ?_ (Nat.zero_le _)
  intro g dd' same
  apply wpAny_pure
  show wpAny _ _ (pure PUnit.unit) _ _ _
  apply wpAny_pure
  obtain ⟨ob, es, ep, ho, hc, hdat, hkeys, _, hnd⟩ := dd'
  have rel' : KT H2 (putK [] ks y) (storedH [] ks b uv) := KT.put (H := H2) .nil ks hb ry
  have new : ObjOk X.prog X.w (upd H2 s.heap.objs.size (.dT [(ks, y)])) g s.heap.objs.size (.dT [(ks, y)]) := by
    refine ⟨by simp [sizeLine_eq], low, _, rel'.keeps ?_, ob, es, ep, ho, hc, hdat, hkeys, hnd⟩
    intro c ys ec
    rw [upd_ne (ne_of ec hd (fun z => nomatch z))]
    exact ec
  exact ⟨.ref s.heap.objs.size, _, d_write I2 (by rw [hd]; exact True.intro) same ⟨ob, ho⟩ new, rfl, q2⟩
end

/-! ### d.pop(k), there, its keys tuples -/
def rPop1 : V → List V → Hp → VK → Prop := fun x xs H Q => ∃ (a : Addr) (kvs : List (List L2.Key × V)) (k : List L2.Key) (b : Addr) (v : V), x = .ref a ∧ xs = [.ref b] ∧ H a = some (.dT kvs) ∧ H b = some (.tup (k.map kV)) ∧
  valV kvs k = some v ∧ Q v (upd H a (.dT (dropK kvs k)))
section
variable {X : Cx}
theorem mt_pop1 (hu : X.A.units + 1 < cLine) : MtR X "dict.pop" rPop1 := by
  intro pins s σ H x xs v us Q I rx rxs h
  obtain ⟨a, kvs, k, b, y, rfl, rfl, ha, hb, hy, q⟩ := h
  cases rx
  obtain ⟨u1, rfl, r1⟩ := vals1 rxs
  cases r1
  obtain ⟨z, low, ws, rel, dd⟩ := dt_of I.hok ha
  have zz : ws.length ≤ sizeLine := Nat.le_trans (Nat.le_of_eq (Paired.length rel).symm) z
  have rv := rel.val k
  rw [hy] at rv
  cases ev : atKey ws k with
  | none =>
    rw [ev] at rv
    exact (show False from rv).elim
  | some p =>
    rw [ev] at rv
    refine call_pop_heap (hsz := zz) (knd := tupleKind (mixKind X.prog X.w)) (.inl rfl) (PySem.F.args_dict_pop_2 _ _) (tupleKind_room_in1 hu) (key_of I.hok hb) low dd ev ?_
    intro g dd' same
    obtain ⟨ob, es, ep, ho, hc, hdat, hkeys, _, hnd⟩ := dd'
    have new : ObjOk X.prog X.w (upd H a (.dT (dropK kvs k))) g a (.dT (dropK kvs k)) := by
      refine ⟨Nat.le_trans (dropK_le kvs k) z, low, _, (L2.DX.KT_drop k rel).keeps ?_, ob, es, ep, ho, hc, hdat, hkeys, hnd⟩
      intro c ys ec
      rw [upd_ne (ne_of ec ha (fun z => nomatch z))]
      exact ec
    exact ⟨y, _, d_write I (by rw [ha]; exact True.intro) same ⟨ob, ho⟩ new, rv, q⟩
end

/-! ### xs.remove(y), there, of data at any depth -/
def rRemD (K : PySem.W.Frag) : V → List V → Hp → VK → Prop := fun x xs H Q => ∃ (l : Addr) (y : V) (ys : List V) (d : PyData) (ds : List PyData) (j : Nat) (z : PyData), x = V.ref l ∧ xs = [y] ∧ H l = some (.lst ys) ∧ DpAll K H ys ds ∧ Dp K H y d ∧
  SeqAt.shaped (.list ds) = true ∧ SeqAt.shaped d = true ∧ ds[j]? = some z ∧ PyData.eqv z d = true ∧ (∀ (m : Nat) (z' : PyData), m < j → ds[m]? = some z' → PyData.eqv z' d = false) ∧ Q .non (upd H l (.lst (ys.eraseIdx j)))
section
variable {X : Cx}
theorem mt_removeD (hu : X.A.units + 65 < cLine) : MtR X "list.remove" (rRemD X.K) := by
  intro pins s σ H x xs v us Q I rx rxs h
  obtain ⟨l, y, ys, d, ds, j, z, rfl, rfl, hl, hys, hy, sl, sd, hz, hzj, hno, q⟩ := h
  cases rx
  obtain ⟨u, rfl, ru⟩ := vals1 rxs
  obtain ⟨bs, r1⟩ := Dp.reads I d y u hy ru
  obtain ⟨big, its, n, rv, hlen, ho⟩ := I.lstM hl
  obtain ⟨as, r2⟩ := Dp.readsAll I ds ys its hys rv
  have lay : PyData.canLayAll0 ds = true := SeqAt.canLay_of_shaped sl
  have room : X.A.units + 1 + min (PyData.depthAll ds) d.depth < cLine := room_in_shaped sd hu
  have nds : its.length = ds.length := SeqAt.ReadsAll.length ds its as r2
  have rd : its.map (SeqAt.readOf s.heap) = ds := SeqAt.readsAll_map ds its as lay r2
  have jds : j < ds.length := (List.getElem?_eq_some_iff.mp hz).1
  have jits : j < its.length := by omega
  have small : its.length ≤ sizeLine := by omega
  have at_ : ∀ (m : Nat) (hm : m < its.length) (z' : PyData), ds[m]? = some z' → SeqAt.readOf s.heap its[m] = z' := by
    intro m hm z' hz'
    rw [← rd, List.getElem?_map, List.getElem?_eq_getElem hm, Option.map_some] at hz'
    exact Option.some.inj hz'
  refine call_meets PySem.F.slot_list_remove ⟨_, ho, rfl⟩ PySem.F.entry_list_remove (PySem.F.args_list_remove_2 _ _)
    (SeqAt.list_removeAt l its.toArray n _ _ u (fun w => PyData.eqv (SeqAt.readOf s.heap w) d) j (by simpa using jits) ?_ ?_ (by simpa using small)) ⟨ho, SeqAt.items_eqAt (vs := its.toArray) r2 r1 lay (SeqAt.canLay_of_shaped sd) room, ?_⟩
  · show PyData.eqv (SeqAt.readOf s.heap its.toArray[j]) d = true
    rw [List.getElem_toArray, at_ j jits z hz]
    exact hzj
  · intro m hm hmj
    have hmi : m < its.length := by simpa using hm
    have hmd : ds[m]? = some ds[m] := List.getElem?_eq_getElem (by omega)
    show PyData.eqv (SeqAt.readOf s.heap its.toArray[m]) d = false
    rw [List.getElem_toArray, at_ m hmi _ hmd]
    exact hno m _ hmj hmd
  · refine ⟨.non, _, I.lset (its' := its.eraseIdx j) hl ho ?_ (rv.eraseIdx j) ?_, rfl, q⟩
    · rw [List.eraseIdxIfInBounds_toArray]
    · have := List.length_eraseIdx_le ys j
      omega
end

/-! ### d[i], a written dict of whole numbers -/
def numKeys (es : Array DictEntry) : Bool := es.toList.all fun e => match e.key with
  | .int k _ => e.hash == hashInt k
  | _ => false
def KNum (K : PySem.W.Frag) (p : Addr) (i : Int) (v : V) : Prop := ∃ es n u, K.lookup p = some ⟨.type "dict", none, .dict es n, #[]⟩ ∧ numKeys es = true ∧ findBy Value.isInt es i = some u ∧ RelV v u
def rIxN (K : PySem.W.Frag) : R2 := fun x y H Q => ∃ p i v, x = .ref p ∧ y = .int i ∧ KNum K p i v ∧ Q v H
section
variable {X : Cx}
theorem ix_num : IxR X (rIxN X.K) := by
  intro value slice pins s σ H x y v u Q I rx ry h hs
  obtain ⟨p, i, r, rfl, rfl, ⟨es, n, u0, hl, hk, e, ru⟩, q⟩ := h
  cases (show v = Value.ref p from rx)
  obtain ⟨t, rfl⟩ := (show ∃ t, u = Value.int i t from ry)
  have keys : KeysOf (intKind X.prog X.w) es := by
    intro x hx
    have hx' := List.all_eq_true.mp hk x (by simpa using hx)
    cases ex : x.key with
    | int k tk =>
      rw [ex] at hx'
      exact ⟨k, intKind_is X.prog X.w k tk, beq_iff_eq.mp hx'⟩
    | _ =>
      rw [ex] at hx'
      exact absurd hx' (by simp)
  have hm : s.heap.MapOf (intKind X.prog X.w) p (fun k => findBy Value.isInt es k) := ⟨_, es, n, I.kIn p _ hl, ⟨rfl, rfl, rfl⟩, rfl, keys, fun k => rfl⟩
  exact tail_any hm.typeIs slot_dict_getitem.lookup (wpAny_getItem_of (intKind_is X.prog X.w i t) hm e ⟨r, H, I.tok _, ru, q⟩) hs
end
end Dm
/-! ## DmRules2 -/
/-! More rules that the layer lacks: index of a tuple; extend by a tuple; len of a set of tuples. -/
namespace Dm
open PySem PySem.Spec PyProof.Rows L2

/-! ### xs.extend(t), t a tuple -/
section
open PySem.AutoSeq1
theorem extend_tup (l : Addr) (items : Array Value) (n : Nat) (b : Addr) (items2 : Array Value) (n2 : Nat) (dd : Option Addr) (sl : Array (Option Value)) (hs0 : ¬(!items.isEmpty && Builtin.List.listTooLong (items.size + items2.size)) = true) (hs1 : items.size ≤ sizeLine) (hs2 : items.size + items2.size ≤ sizeLine + 1) :
    Meets (Builtin.«list.extend» ⟨[.ref l, .ref b], []⟩) (fun _ R s => s.heap.get? l = some { cls := .type "list", dict := none, data := .seq items n, slots := #[] } ∧ s.heap.get? b = some { cls := .type "tuple", dict := dd, data := .seq items2 n2, slots := sl } ∧ R (.ok (.ret Value.none)) { s with heap := s.heap.update l (Obj.mapSeq fun x => x ++ items2), toks := s.toks }) :=
  .of_wp fun prog w A R s h => by
    obtain ⟨hp, g, d, tk, os⟩ := s; obtain ⟨hl, hb, h⟩ := h; have f1 := AutoSeq1.idx_int; have f2 := AutoSeq1.sub_tuple_tuple; have f3 := AutoSeq1.sub_list_list; have f4 := AutoSeq1.sub_tuple_list; have f5 := AutoSeq1.sub_list_tuple;
    have hz' : (items ++ items2).size ≤ sizeLine + 1 := by rw [Array.size_append]; exact hs2
    wp_walk using (wpAny_updateSeq hl rfl (hz := hs1) (_hz' := hz')), wpAny_loadPart' hl, wpAny_loadPart' hb; exact ⟨_, rfl, h⟩
end
def rExtendT (K : PySem.W.Frag) : V → List V → Hp → VK → Prop := fun x vs H Q => ∃ l b xs zs, x = .ref l ∧ vs = [.ref b] ∧ H l = some (.lst xs) ∧ SqT K H b zs ∧ xs.length + zs.length ≤ sizeLine ∧ Q .non (upd H l (.lst (xs ++ zs)))
theorem mt_extendT {X : Cx} : MtR X "list.extend" (rExtendT X.K) := by
  intro pins s σ H x vs v us Q I rx rv h
  obtain ⟨l, b, xs, zs, rfl, rfl, hH, hB, hz, q⟩ := h
  cases rx
  obtain ⟨u, rfl, ru⟩ := rv.one
  cases ru
  obtain ⟨z, its, n, r, hl, e⟩ := I.lstM hH
  obtain ⟨its2, r2, ⟨⟨cls, dd, dt, sl⟩, ho, hc, n2, hd⟩, hl2⟩ := I.tuple hB
  simp only at hc hd
  subst hc
  subst hd
  have hl2 := r2.length
  have hsz : its.toArray.size + its2.toArray.size ≤ sizeLine := by rw [List.size_toArray, List.size_toArray]; omega
  have hlong : ¬ (!its.toArray.isEmpty && Builtin.List.listTooLong (its.toArray.size + its2.toArray.size)) = true := by
    rw [notLongL hsz, Bool.and_false]
    exact Bool.false_ne_true
  refine call_meets PySem.F.slot_list_extend ⟨_, e, rfl⟩ PySem.F.entry_list_extend (PySem.F.args_list_extend_2 _ _)
    (extend_tup l its.toArray n b its2.toArray n2 dd sl hlong (by rw [List.size_toArray]; omega) (by omega)) ⟨e, ho, ?_⟩
  refine ⟨.non, _, I.lset (its' := its ++ its2) hH e (by simp) (r.append r2) ?_, rfl, q⟩
  rw [List.length_append]
  omega

/-! ### t.index(y), the first place; flat items -/
def rTupIndex (K : PySem.W.Frag) : V → List V → Hp → VK → Prop := fun x xs H Q => ∃ (a : Addr) (ys : List V) (y : V) (j : Nat) (z : V), x = V.ref a ∧ xs = [y] ∧ SqT K H a ys ∧ flatV y = true ∧ ys.all flatV = true ∧ ys[j]? = some z ∧ eqV z y = true ∧
  (∀ (m : Nat) (z' : V), m < j → ys[m]? = some z' → eqV z' y = false) ∧ Q (.int (j : Nat)) H
theorem mt_tupIndex {X : Cx} : MtR X "tuple.index" (rTupIndex X.K) := by
  intro pins s σ H x xs v us Q I rx rxs h
  obtain ⟨a, ys, y, j, z, rfl, rfl, hs, fy, fys, hz, hzj, hno, q⟩ := h
  cases rx
  cases rxs with
  | cons ry rt =>
    rename_i uy ut
    cases rt
    obtain ⟨its, rv, ⟨⟨cls, dd, data, sl⟩, ho, hc, n, hd⟩, hlen⟩ := I.tuple hs
    simp only at hc hd
    subst hc hd
    obtain ⟨u, hu, ru⟩ := rv.get hz
    obtain ⟨hjl, hje⟩ := List.getElem?_eq_some_iff.mp hu
    have hvl := rv.length
    have hj : j < its.toArray.size := by simpa using hjl
    refine call_meets PySem.F.slot_tuple_index ⟨_, ho, rfl⟩ PySem.F.entry_tuple_index (PySem.F.args_tuple_index_2 _ _)
      (TI.tuple_indexAt a its.toArray n dd sl uy (eqU y) j hj ?_ ?_) ⟨ho, fun u' hu' => mem_eqAt ry fy rv fys u' (by simpa using hu'), ?_⟩
    · have e1 : its.toArray[j] = u := by simpa using hje
      rw [e1, eqU_of ru (flat_at fys hz)]
      exact hzj
    · intro m hm hmj
      have hml : m < its.length := by simpa using hm
      have hmy : m < ys.length := by omega
      have hy' : ys[m]? = some ys[m] := List.getElem?_eq_getElem hmy
      obtain ⟨u2, hu2, ru2⟩ := rv.get hy'
      obtain ⟨_, hme⟩ := List.getElem?_eq_some_iff.mp hu2
      have e1 : its.toArray[m] = u2 := by simpa using hme
      rw [e1, eqU_of ru2 (flat_at fys hy')]
      exact hno m _ hmj hy'
    · exact ⟨.int (j : Nat), H, I.tok _, ⟨_, rfl⟩, q⟩

/-! ### len of a set of tuples -/
theorem call_lenST {X : Cx} : CallR X (.builtin "len") (fun xs H Q => ∃ a L, xs = [V.ref a] ∧ H a = some (SetTO X.prog X.w a L) ∧ ((L.map (·.2)).Nodup → Q (.int (L.length : Nat)) H)) := by
  intro pins s σ H xs us Q I r h
  obtain ⟨a, L, rfl, ha, q⟩ := h
  obtain ⟨u, rfl, ru⟩ := vals1 r
  cases ru
  obtain ⟨R, _⟩ := (show ObjOk X.prog X.w H s.heap a (SetTO X.prog X.w a L) from I.hok a _ ha)
  obtain ⟨es, ep, t, ⟨o, ho, hex, hd⟩, hrows, tab, hnd, hpl, hled, hroom, hfew⟩ := SetT0.ex R
  have hsz : es.size = L.length := by
    have := congrArg List.length hrows
    simpa [rowsOf] using this
  have hf : t.fits es.size = true := by
    have h1 := tab.sz
    rw [List.length_map] at h1
    unfold SetTable.fits SetTable.fill
    rw [tab.dm, Bool.and_eq_true, beq_iff_eq, decide_eq_true_eq]
    show t.place.size = es.size ∧ t.place.size + 0 ≤ t.mask
    omega
  refine call_len_set ho hex hd hf (by rw [hsz]; omega) ⟨.int (L.length : Nat), H, I.tok _, ⟨_, by rw [hsz]⟩, q hnd⟩
end Dm
/-! ## DmText -/
/-! The text by places. -/
namespace Dm
open PySem PySem.Spec PyProof.Rows L2
def top (i : Nat) : Stmt := PySem.Challenge.pw_dominotable_s01_answers.main.body.getD i (.Pass ⟨0, 0, 0, 0⟩)
abbrev s_f_count_deals : Stmt := top 1
abbrev s_f_count_by_place : Stmt := top 2
abbrev s_f_ways_by_room_left : Stmt := top 3
abbrev s_f_with_one_dealt : Stmt := top 4
abbrev s_f_all_tiles : Stmt := top 6
abbrev s_f_tile_of : Stmt := top 7
abbrev s_f_tiles_of : Stmt := top 8
abbrev s_f_other_number : Stmt := top 9
abbrev s_f_points_of : Stmt := top 10
abbrev s_r_init : Stmt := inClass (top 14) 0
abbrev s_r_has_tile : Stmt := inClass (top 14) 1
abbrev s_r_has_place : Stmt := inClass (top 14) 2
abbrev s_r_has_player : Stmt := inClass (top 14) 3
abbrev s_r_is_over : Stmt := inClass (top 14) 4
abbrev s_r_lies : Stmt := inClass (top 14) 5
abbrev s_r_ends : Stmt := inClass (top 14) 6
abbrev s_r_fits : Stmt := inClass (top 14) 7
abbrev s_r_stands : Stmt := inClass (top 14) 8
abbrev s_r_places_of : Stmt := inClass (top 14) 9
abbrev s_r_is_lacking : Stmt := inClass (top 14) 10
abbrev s_r_deals : Stmt := inClass (top 14) 11
abbrev s_r_deals_by_place : Stmt := inClass (top 14) 12
abbrev s_r_deals_with_hand : Stmt := inClass (top 14) 13
abbrev s_r_deals_after_pass : Stmt := inClass (top 14) 14
abbrev s_r_note_known : Stmt := inClass (top 14) 15
abbrev s_r_note_hand : Stmt := inClass (top 14) 16
abbrev s_r_lay : Stmt := inClass (top 14) 17
abbrev s_r_note_pass : Stmt := inClass (top 14) 18
abbrev s_r_is_all_shown : Stmt := inClass (top 14) 19
abbrev s_r_counts : Stmt := inClass (top 14) 20
abbrev s_r_winner : Stmt := inClass (top 14) 21
abbrev s_r_end_turn : Stmt := inClass (top 14) 22
abbrev s_f_begin_refusal : Stmt := top 17
abbrev s_w_init : Stmt := inClass (top 18) 0
abbrev s_w_begin : Stmt := inClass (top 18) 1
abbrev s_w_know : Stmt := inClass (top 18) 2
abbrev s_w_know_refusal : Stmt := inClass (top 18) 3
abbrev s_w_play : Stmt := inClass (top 18) 4
abbrev s_w_play_refusal : Stmt := inClass (top 18) 5
abbrev s_w_pass_by : Stmt := inClass (top 18) 6
abbrev s_w_pass_refusal : Stmt := inClass (top 18) 7
abbrev s_w_count_fitting : Stmt := inClass (top 18) 8
abbrev s_w_has_round : Stmt := inClass (top 18) 9
abbrev s_w_may : Stmt := inClass (top 18) 10
abbrev s_w_may_refusal : Stmt := inClass (top 18) 11
abbrev s_w_show : Stmt := inClass (top 18) 12
abbrev s_w_show_refusal : Stmt := inClass (top 18) 13
abbrev s_w_hand_refusal : Stmt := inClass (top 18) 14
abbrev s_w_score : Stmt := inClass (top 18) 15
abbrev s_w_now : Stmt := inClass (top 18) 16
abbrev s_w_tell_line : Stmt := inClass (top 18) 17
abbrev s_f_answers : Stmt := top 30
abbrev s_f_answer_of : Stmt := top 31
theorem sc_f_count_deals : FnScope ["choices", "room"] ["choices", "room"] (defScope s_f_count_deals) := ⟨rfl, rfl, rfl, by decide +kernel, rfl, by decide +kernel, by decide +kernel⟩
theorem sc_f_count_by_place : FnScope ["others", "places", "room", "counts", "ways", "left", "place"] ["others", "places", "room"] (defScope s_f_count_by_place) := ⟨rfl, rfl, rfl, by decide +kernel, rfl, by decide +kernel, by decide +kernel⟩
theorem sc_f_ways_by_room_left : FnScope ["choices", "room", "ways", "places"] ["choices", "room"] (defScope s_f_ways_by_room_left) := ⟨rfl, rfl, rfl, by decide +kernel, rfl, by decide +kernel, by decide +kernel⟩
theorem sc_f_with_one_dealt : FnScope ["ways", "places", "after", "room", "place", "left"] ["ways", "places"] (defScope s_f_with_one_dealt) := ⟨rfl, rfl, rfl, by decide +kernel, rfl, by decide +kernel, by decide +kernel⟩
theorem sc_f_all_tiles : FnScope ["greatest", "tiles", "lesser", "greater"] ["greatest"] (defScope s_f_all_tiles) := ⟨rfl, rfl, rfl, by decide +kernel, rfl, by decide +kernel, by decide +kernel⟩
theorem sc_f_tile_of : FnScope ["one", "other"] ["one", "other"] (defScope s_f_tile_of) := ⟨rfl, rfl, rfl, by decide +kernel, rfl, by decide +kernel, by decide +kernel⟩
theorem sc_f_tiles_of : FnScope ["numbers", "at"] ["numbers"] (defScope s_f_tiles_of) := ⟨rfl, rfl, rfl, by decide +kernel, rfl, by decide +kernel, by decide +kernel⟩
theorem sc_f_other_number : FnScope ["tile", "number"] ["tile", "number"] (defScope s_f_other_number) := ⟨rfl, rfl, rfl, by decide +kernel, rfl, by decide +kernel, by decide +kernel⟩
theorem sc_f_points_of : FnScope ["hand", "tile"] ["hand"] (defScope s_f_points_of) := ⟨rfl, rfl, rfl, by decide +kernel, rfl, by decide +kernel, by decide +kernel⟩
theorem sc_r_init : FnScope ["self", "players", "each", "greatest", "first"] ["self", "players", "each", "greatest", "first"] (defScope s_r_init) := ⟨rfl, rfl, rfl, by decide +kernel, rfl, by decide +kernel, by decide +kernel⟩
theorem sc_r_has_tile : FnScope ["self", "tile"] ["self", "tile"] (defScope s_r_has_tile) := ⟨rfl, rfl, rfl, by decide +kernel, rfl, by decide +kernel, by decide +kernel⟩
theorem sc_r_has_place : FnScope ["self", "place"] ["self", "place"] (defScope s_r_has_place) := ⟨rfl, rfl, rfl, by decide +kernel, rfl, by decide +kernel, by decide +kernel⟩
theorem sc_r_has_player : FnScope ["self", "player"] ["self", "player"] (defScope s_r_has_player) := ⟨rfl, rfl, rfl, by decide +kernel, rfl, by decide +kernel, by decide +kernel⟩
theorem sc_r_is_over : FnScope ["self"] ["self"] (defScope s_r_is_over) := ⟨rfl, rfl, rfl, by decide +kernel, rfl, by decide +kernel, by decide +kernel⟩
theorem sc_r_lies : FnScope ["self", "tile"] ["self", "tile"] (defScope s_r_lies) := ⟨rfl, rfl, rfl, by decide +kernel, rfl, by decide +kernel, by decide +kernel⟩
theorem sc_r_ends : FnScope ["self"] ["self"] (defScope s_r_ends) := ⟨rfl, rfl, rfl, by decide +kernel, rfl, by decide +kernel, by decide +kernel⟩
theorem sc_r_fits : FnScope ["self", "tile", "side"] ["self", "tile", "side"] (defScope s_r_fits) := ⟨rfl, rfl, rfl, by decide +kernel, rfl, by decide +kernel, by decide +kernel⟩
theorem sc_r_stands : FnScope ["self", "left", "right"] ["self"] (defScope s_r_stands) := ⟨rfl, rfl, rfl, by decide +kernel, rfl, by decide +kernel, by decide +kernel⟩
theorem sc_r_places_of : FnScope ["self", "tile", "place"] ["self", "tile"] (defScope s_r_places_of) := ⟨rfl, rfl, rfl, by decide +kernel, rfl, by decide +kernel, by decide +kernel⟩
theorem sc_r_is_lacking : FnScope ["self", "place", "tile"] ["self", "place", "tile"] (defScope s_r_is_lacking) := ⟨rfl, rfl, rfl, by decide +kernel, rfl, by decide +kernel, by decide +kernel⟩
theorem sc_r_deals : FnScope ["self", "tile"] ["self"] (defScope s_r_deals) := ⟨rfl, rfl, rfl, by decide +kernel, rfl, by decide +kernel, by decide +kernel⟩
theorem sc_r_deals_by_place : FnScope ["self", "tile", "others", "hidden"] ["self", "tile"] (defScope s_r_deals_by_place) := ⟨rfl, rfl, rfl, by decide +kernel, rfl, by decide +kernel, by decide +kernel⟩
theorem sc_r_deals_with_hand : FnScope ["self", "player", "hand", "choices", "tile", "places", "place"] ["self", "player", "hand"] (defScope s_r_deals_with_hand) := ⟨rfl, rfl, rfl, by decide +kernel, rfl, by decide +kernel, by decide +kernel⟩
theorem sc_r_deals_after_pass : FnScope ["self", "left", "right", "choices", "tile", "places", "place"] ["self"] (defScope s_r_deals_after_pass) := ⟨rfl, rfl, rfl, by decide +kernel, rfl, by decide +kernel, by decide +kernel⟩
theorem sc_r_note_known : FnScope ["self", "tile", "place"] ["self", "tile", "place"] (defScope s_r_note_known) := ⟨rfl, rfl, rfl, by decide +kernel, rfl, by decide +kernel, by decide +kernel⟩
theorem sc_r_note_hand : FnScope ["self", "player", "hand", "tile"] ["self", "player", "hand"] (defScope s_r_note_hand) := ⟨rfl, rfl, rfl, by decide +kernel, rfl, by decide +kernel, by decide +kernel⟩
theorem sc_r_lay : FnScope ["self", "tile", "side", "left", "right"] ["self", "tile", "side"] (defScope s_r_lay) := ⟨rfl, rfl, rfl, by decide +kernel, rfl, by decide +kernel, by decide +kernel⟩
theorem sc_r_note_pass : FnScope ["self", "number"] ["self"] (defScope s_r_note_pass) := ⟨rfl, rfl, rfl, by decide +kernel, rfl, by decide +kernel, by decide +kernel⟩
theorem sc_r_is_all_shown : FnScope ["self"] ["self"] (defScope s_r_is_all_shown) := ⟨rfl, rfl, rfl, by decide +kernel, rfl, by decide +kernel, by decide +kernel⟩
theorem sc_r_counts : FnScope ["self", "player"] ["self"] (defScope s_r_counts) := ⟨rfl, rfl, rfl, by decide +kernel, rfl, by decide +kernel, by decide +kernel⟩
theorem sc_r_winner : FnScope ["self", "player", "counts", "least"] ["self"] (defScope s_r_winner) := ⟨rfl, rfl, rfl, by decide +kernel, rfl, by decide +kernel, by decide +kernel⟩
theorem sc_r_end_turn : FnScope ["self", "over"] ["self", "over"] (defScope s_r_end_turn) := ⟨rfl, rfl, rfl, by decide +kernel, rfl, by decide +kernel, by decide +kernel⟩
theorem sc_f_begin_refusal : FnScope ["players", "each", "greatest", "first", "rest", "states", "player"] ["players", "each", "greatest", "first"] (defScope s_f_begin_refusal) := ⟨rfl, rfl, rfl, by decide +kernel, rfl, by decide +kernel, by decide +kernel⟩
theorem sc_w_init : FnScope ["self"] ["self"] (defScope s_w_init) := ⟨rfl, rfl, rfl, by decide +kernel, rfl, by decide +kernel, by decide +kernel⟩
theorem sc_w_begin : FnScope ["self", "players", "each", "greatest", "first", "refusal"] ["self", "players", "each", "greatest", "first"] (defScope s_w_begin) := ⟨rfl, rfl, rfl, by decide +kernel, rfl, by decide +kernel, by decide +kernel⟩
theorem sc_w_know : FnScope ["self", "place", "one", "other", "tile", "refusal"] ["self", "place", "one", "other"] (defScope s_w_know) := ⟨rfl, rfl, rfl, by decide +kernel, rfl, by decide +kernel, by decide +kernel⟩
theorem sc_w_know_refusal : FnScope ["self", "place", "tile"] ["self", "place", "tile"] (defScope s_w_know_refusal) := ⟨rfl, rfl, rfl, by decide +kernel, rfl, by decide +kernel, by decide +kernel⟩
theorem sc_w_play : FnScope ["self", "one", "other", "side", "tile", "refusal", "player"] ["self", "one", "other", "side"] (defScope s_w_play) := ⟨rfl, rfl, rfl, by decide +kernel, rfl, by decide +kernel, by decide +kernel⟩
theorem sc_w_play_refusal : FnScope ["self", "tile", "side"] ["self", "tile", "side"] (defScope s_w_play_refusal) := ⟨rfl, rfl, rfl, by decide +kernel, rfl, by decide +kernel, by decide +kernel⟩
theorem sc_w_pass_by : FnScope ["self", "refusal"] ["self"] (defScope s_w_pass_by) := ⟨rfl, rfl, rfl, by decide +kernel, rfl, by decide +kernel, by decide +kernel⟩
theorem sc_w_pass_refusal : FnScope ["self"] ["self"] (defScope s_w_pass_refusal) := ⟨rfl, rfl, rfl, by decide +kernel, rfl, by decide +kernel, by decide +kernel⟩
theorem sc_w_count_fitting : FnScope ["self"] ["self"] (defScope s_w_count_fitting) := ⟨rfl, rfl, rfl, by decide +kernel, rfl, by decide +kernel, by decide +kernel⟩
theorem sc_w_has_round : FnScope ["self"] ["self"] (defScope s_w_has_round) := ⟨rfl, rfl, rfl, by decide +kernel, rfl, by decide +kernel, by decide +kernel⟩
theorem sc_w_may : FnScope ["self", "one", "other", "tile", "refusal"] ["self", "one", "other"] (defScope s_w_may) := ⟨rfl, rfl, rfl, by decide +kernel, rfl, by decide +kernel, by decide +kernel⟩
theorem sc_w_may_refusal : FnScope ["self", "tile"] ["self", "tile"] (defScope s_w_may_refusal) := ⟨rfl, rfl, rfl, by decide +kernel, rfl, by decide +kernel, by decide +kernel⟩
theorem sc_w_show : FnScope ["self", "player", "numbers", "refusal", "hand"] ["self", "player", "numbers"] (defScope s_w_show) := ⟨rfl, rfl, rfl, by decide +kernel, rfl, by decide +kernel, by decide +kernel⟩
theorem sc_w_show_refusal : FnScope ["self", "player", "numbers"] ["self", "player", "numbers"] (defScope s_w_show_refusal) := ⟨rfl, rfl, rfl, by decide +kernel, rfl, by decide +kernel, by decide +kernel⟩
theorem sc_w_hand_refusal : FnScope ["self", "player", "hand", "tile"] ["self", "player", "hand"] (defScope s_w_hand_refusal) := ⟨rfl, rfl, rfl, by decide +kernel, rfl, by decide +kernel, by decide +kernel⟩
theorem sc_w_score : FnScope ["self", "counts", "winner"] ["self"] (defScope s_w_score) := ⟨rfl, rfl, rfl, by decide +kernel, rfl, by decide +kernel, by decide +kernel⟩
theorem sc_w_now : FnScope ["self", "rest", "told"] ["self"] (defScope s_w_now) := ⟨rfl, rfl, rfl, by decide +kernel, rfl, by decide +kernel, by decide +kernel⟩
theorem sc_w_tell_line : FnScope ["self", "told", "tile"] ["self"] (defScope s_w_tell_line) := ⟨rfl, rfl, rfl, by decide +kernel, rfl, by decide +kernel, by decide +kernel⟩
theorem sc_f_answers : FnScope ["calls", "watcher", "told", "at", "behind", "numbers", "row", "answer"] ["calls"] (defScope s_f_answers) := ⟨rfl, rfl, rfl, by decide +kernel, rfl, by decide +kernel, by decide +kernel⟩
theorem sc_f_answer_of : FnScope ["watcher", "call", "numbers", "row"] ["watcher", "call", "numbers", "row"] (defScope s_f_answer_of) := ⟨rfl, rfl, rfl, by decide +kernel, rfl, by decide +kernel, by decide +kernel⟩
end Dm
/-! ## DmFields -/
/-! The attributes of the program's objects. -/
namespace Dm
open PySem PySem.Spec PyProof.Rows L2
theorem lk_at {k : Str} {v : V} {r : List (Str × V)} : List.lookup k ((k, v) :: r) = some v := by
  have e : (k == k) = true := beq_self_eq_true k
  simp only [List.lookup, e]
theorem lk_on {k g : Str} {v : V} {r : List (Str × V)} (h : (k == g) = false) : List.lookup k ((g, v) :: r) = List.lookup k r := by
  simp only [List.lookup, h]
theorem pt_at {f : Str} {v x : V} {r : List (Str × V)} : putF f v ((f, x) :: r) = (f, v) :: r := if_pos rfl
theorem pt_on {f g : Str} {v x : V} {r : List (Str × V)} (h : ¬ g = f) : putF f v ((g, x) :: r) = (g, x) :: putF f v r := if_neg h
theorem pt_end {f : Str} {v : V} : putF f v [] = [(f, v)] := rfl
def rF (v0 v1 v2 v3 v4 v5 v6 v7 v8 v9 : V) : List (Str × V) := [("players", v0), ("greatest", v1), ("turn", v2), ("line", v3), ("hidden", v4), ("room", v5), ("known", v6), ("lacks", v7), ("passes", v8), ("shown", v9)]
section
variable {v0 v1 v2 v3 v4 v5 v6 v7 v8 v9 y : V}
theorem rF_players : (rF v0 v1 v2 v3 v4 v5 v6 v7 v8 v9).lookup ("players" : Str) = some v0 := lk_at
theorem rP_players : putF "players" y (rF v0 v1 v2 v3 v4 v5 v6 v7 v8 v9) = rF y v1 v2 v3 v4 v5 v6 v7 v8 v9 := pt_at
theorem rF_greatest : (rF v0 v1 v2 v3 v4 v5 v6 v7 v8 v9).lookup ("greatest" : Str) = some v1 := (lk_on (by decide +kernel)).trans (lk_at)
theorem rP_greatest : putF "greatest" y (rF v0 v1 v2 v3 v4 v5 v6 v7 v8 v9) = rF v0 y v2 v3 v4 v5 v6 v7 v8 v9 := (pt_on (by decide +kernel)).trans (congrArg _ (pt_at))
theorem rF_turn : (rF v0 v1 v2 v3 v4 v5 v6 v7 v8 v9).lookup ("turn" : Str) = some v2 := (lk_on (by decide +kernel)).trans ((lk_on (by decide +kernel)).trans (lk_at))
theorem rP_turn : putF "turn" y (rF v0 v1 v2 v3 v4 v5 v6 v7 v8 v9) = rF v0 v1 y v3 v4 v5 v6 v7 v8 v9 := (pt_on (by decide +kernel)).trans (congrArg _ ((pt_on (by decide +kernel)).trans (congrArg _ (pt_at))))
theorem rF_line : (rF v0 v1 v2 v3 v4 v5 v6 v7 v8 v9).lookup ("line" : Str) = some v3 := (lk_on (by decide +kernel)).trans ((lk_on (by decide +kernel)).trans ((lk_on (by decide +kernel)).trans (lk_at)))
theorem rP_line : putF "line" y (rF v0 v1 v2 v3 v4 v5 v6 v7 v8 v9) = rF v0 v1 v2 y v4 v5 v6 v7 v8 v9 := (pt_on (by decide +kernel)).trans (congrArg _ ((pt_on (by decide +kernel)).trans (congrArg _ ((pt_on (by decide +kernel)).trans (congrArg _ (pt_at))))))
theorem rF_hidden : (rF v0 v1 v2 v3 v4 v5 v6 v7 v8 v9).lookup ("hidden" : Str) = some v4 := (lk_on (by decide +kernel)).trans ((lk_on (by decide +kernel)).trans ((lk_on (by decide +kernel)).trans ((lk_on (by decide +kernel)).trans (lk_at))))
theorem rP_hidden : putF "hidden" y (rF v0 v1 v2 v3 v4 v5 v6 v7 v8 v9) = rF v0 v1 v2 v3 y v5 v6 v7 v8 v9 := (pt_on (by decide +kernel)).trans (congrArg _ ((pt_on (by decide +kernel)).trans (congrArg _ ((pt_on (by decide +kernel)).trans (congrArg _ ((pt_on (by decide +kernel)).trans (congrArg _ (pt_at))))))))
theorem rF_room : (rF v0 v1 v2 v3 v4 v5 v6 v7 v8 v9).lookup ("room" : Str) = some v5 := (lk_on (by decide +kernel)).trans ((lk_on (by decide +kernel)).trans ((lk_on (by decide +kernel)).trans ((lk_on (by decide +kernel)).trans ((lk_on (by decide +kernel)).trans (lk_at)))))
theorem rP_room : putF "room" y (rF v0 v1 v2 v3 v4 v5 v6 v7 v8 v9) = rF v0 v1 v2 v3 v4 y v6 v7 v8 v9 := (pt_on (by decide +kernel)).trans (congrArg _ ((pt_on (by decide +kernel)).trans (congrArg _ ((pt_on (by decide +kernel)).trans (congrArg _ ((pt_on (by decide +kernel)).trans (congrArg _ ((pt_on (by decide +kernel)).trans (congrArg _ (pt_at))))))))))
theorem rF_known : (rF v0 v1 v2 v3 v4 v5 v6 v7 v8 v9).lookup ("known" : Str) = some v6 := (lk_on (by decide +kernel)).trans ((lk_on (by decide +kernel)).trans ((lk_on (by decide +kernel)).trans ((lk_on (by decide +kernel)).trans ((lk_on (by decide +kernel)).trans ((lk_on (by decide +kernel)).trans (lk_at))))))
theorem rP_known : putF "known" y (rF v0 v1 v2 v3 v4 v5 v6 v7 v8 v9) = rF v0 v1 v2 v3 v4 v5 y v7 v8 v9 := (pt_on (by decide +kernel)).trans (congrArg _ ((pt_on (by decide +kernel)).trans (congrArg _ ((pt_on (by decide +kernel)).trans (congrArg _ ((pt_on (by decide +kernel)).trans (congrArg _ ((pt_on (by decide +kernel)).trans (congrArg _ ((pt_on (by decide +kernel)).trans (congrArg _ (pt_at))))))))))))
theorem rF_lacks : (rF v0 v1 v2 v3 v4 v5 v6 v7 v8 v9).lookup ("lacks" : Str) = some v7 := (lk_on (by decide +kernel)).trans ((lk_on (by decide +kernel)).trans ((lk_on (by decide +kernel)).trans ((lk_on (by decide +kernel)).trans ((lk_on (by decide +kernel)).trans ((lk_on (by decide +kernel)).trans ((lk_on (by decide +kernel)).trans (lk_at)))))))
theorem rP_lacks : putF "lacks" y (rF v0 v1 v2 v3 v4 v5 v6 v7 v8 v9) = rF v0 v1 v2 v3 v4 v5 v6 y v8 v9 := (pt_on (by decide +kernel)).trans (congrArg _ ((pt_on (by decide +kernel)).trans (congrArg _ ((pt_on (by decide +kernel)).trans (congrArg _ ((pt_on (by decide +kernel)).trans (congrArg _ ((pt_on (by decide +kernel)).trans (congrArg _ ((pt_on (by decide +kernel)).trans (congrArg _ ((pt_on (by decide +kernel)).trans (congrArg _ (pt_at))))))))))))))
theorem rF_passes : (rF v0 v1 v2 v3 v4 v5 v6 v7 v8 v9).lookup ("passes" : Str) = some v8 := (lk_on (by decide +kernel)).trans ((lk_on (by decide +kernel)).trans ((lk_on (by decide +kernel)).trans ((lk_on (by decide +kernel)).trans ((lk_on (by decide +kernel)).trans ((lk_on (by decide +kernel)).trans ((lk_on (by decide +kernel)).trans ((lk_on (by decide +kernel)).trans (lk_at))))))))
theorem rP_passes : putF "passes" y (rF v0 v1 v2 v3 v4 v5 v6 v7 v8 v9) = rF v0 v1 v2 v3 v4 v5 v6 v7 y v9 := (pt_on (by decide +kernel)).trans (congrArg _ ((pt_on (by decide +kernel)).trans (congrArg _ ((pt_on (by decide +kernel)).trans (congrArg _ ((pt_on (by decide +kernel)).trans (congrArg _ ((pt_on (by decide +kernel)).trans (congrArg _ ((pt_on (by decide +kernel)).trans (congrArg _ ((pt_on (by decide +kernel)).trans (congrArg _ ((pt_on (by decide +kernel)).trans (congrArg _ (pt_at))))))))))))))))
theorem rF_shown : (rF v0 v1 v2 v3 v4 v5 v6 v7 v8 v9).lookup ("shown" : Str) = some v9 := (lk_on (by decide +kernel)).trans ((lk_on (by decide +kernel)).trans ((lk_on (by decide +kernel)).trans ((lk_on (by decide +kernel)).trans ((lk_on (by decide +kernel)).trans ((lk_on (by decide +kernel)).trans ((lk_on (by decide +kernel)).trans ((lk_on (by decide +kernel)).trans ((lk_on (by decide +kernel)).trans (lk_at)))))))))
theorem rP_shown : putF "shown" y (rF v0 v1 v2 v3 v4 v5 v6 v7 v8 v9) = rF v0 v1 v2 v3 v4 v5 v6 v7 v8 y := (pt_on (by decide +kernel)).trans (congrArg _ ((pt_on (by decide +kernel)).trans (congrArg _ ((pt_on (by decide +kernel)).trans (congrArg _ ((pt_on (by decide +kernel)).trans (congrArg _ ((pt_on (by decide +kernel)).trans (congrArg _ ((pt_on (by decide +kernel)).trans (congrArg _ ((pt_on (by decide +kernel)).trans (congrArg _ ((pt_on (by decide +kernel)).trans (congrArg _ ((pt_on (by decide +kernel)).trans (congrArg _ (pt_at))))))))))))))))))
theorem rF_no_counts : (rF v0 v1 v2 v3 v4 v5 v6 v7 v8 v9).lookup ("counts" : Str) = none := (lk_on (by decide +kernel)).trans ((lk_on (by decide +kernel)).trans ((lk_on (by decide +kernel)).trans ((lk_on (by decide +kernel)).trans ((lk_on (by decide +kernel)).trans ((lk_on (by decide +kernel)).trans ((lk_on (by decide +kernel)).trans ((lk_on (by decide +kernel)).trans ((lk_on (by decide +kernel)).trans ((lk_on (by decide +kernel)).trans (rfl))))))))))
theorem rF_no_deals : (rF v0 v1 v2 v3 v4 v5 v6 v7 v8 v9).lookup ("deals" : Str) = none := (lk_on (by decide +kernel)).trans ((lk_on (by decide +kernel)).trans ((lk_on (by decide +kernel)).trans ((lk_on (by decide +kernel)).trans ((lk_on (by decide +kernel)).trans ((lk_on (by decide +kernel)).trans ((lk_on (by decide +kernel)).trans ((lk_on (by decide +kernel)).trans ((lk_on (by decide +kernel)).trans ((lk_on (by decide +kernel)).trans (rfl))))))))))
theorem rF_no_deals_after_pass : (rF v0 v1 v2 v3 v4 v5 v6 v7 v8 v9).lookup ("deals_after_pass" : Str) = none := (lk_on (by decide +kernel)).trans ((lk_on (by decide +kernel)).trans ((lk_on (by decide +kernel)).trans ((lk_on (by decide +kernel)).trans ((lk_on (by decide +kernel)).trans ((lk_on (by decide +kernel)).trans ((lk_on (by decide +kernel)).trans ((lk_on (by decide +kernel)).trans ((lk_on (by decide +kernel)).trans ((lk_on (by decide +kernel)).trans (rfl))))))))))
theorem rF_no_deals_by_place : (rF v0 v1 v2 v3 v4 v5 v6 v7 v8 v9).lookup ("deals_by_place" : Str) = none := (lk_on (by decide +kernel)).trans ((lk_on (by decide +kernel)).trans ((lk_on (by decide +kernel)).trans ((lk_on (by decide +kernel)).trans ((lk_on (by decide +kernel)).trans ((lk_on (by decide +kernel)).trans ((lk_on (by decide +kernel)).trans ((lk_on (by decide +kernel)).trans ((lk_on (by decide +kernel)).trans ((lk_on (by decide +kernel)).trans (rfl))))))))))
theorem rF_no_deals_with_hand : (rF v0 v1 v2 v3 v4 v5 v6 v7 v8 v9).lookup ("deals_with_hand" : Str) = none := (lk_on (by decide +kernel)).trans ((lk_on (by decide +kernel)).trans ((lk_on (by decide +kernel)).trans ((lk_on (by decide +kernel)).trans ((lk_on (by decide +kernel)).trans ((lk_on (by decide +kernel)).trans ((lk_on (by decide +kernel)).trans ((lk_on (by decide +kernel)).trans ((lk_on (by decide +kernel)).trans ((lk_on (by decide +kernel)).trans (rfl))))))))))
theorem rF_no_end_turn : (rF v0 v1 v2 v3 v4 v5 v6 v7 v8 v9).lookup ("end_turn" : Str) = none := (lk_on (by decide +kernel)).trans ((lk_on (by decide +kernel)).trans ((lk_on (by decide +kernel)).trans ((lk_on (by decide +kernel)).trans ((lk_on (by decide +kernel)).trans ((lk_on (by decide +kernel)).trans ((lk_on (by decide +kernel)).trans ((lk_on (by decide +kernel)).trans ((lk_on (by decide +kernel)).trans ((lk_on (by decide +kernel)).trans (rfl))))))))))
theorem rF_no_ends : (rF v0 v1 v2 v3 v4 v5 v6 v7 v8 v9).lookup ("ends" : Str) = none := (lk_on (by decide +kernel)).trans ((lk_on (by decide +kernel)).trans ((lk_on (by decide +kernel)).trans ((lk_on (by decide +kernel)).trans ((lk_on (by decide +kernel)).trans ((lk_on (by decide +kernel)).trans ((lk_on (by decide +kernel)).trans ((lk_on (by decide +kernel)).trans ((lk_on (by decide +kernel)).trans ((lk_on (by decide +kernel)).trans (rfl))))))))))
theorem rF_no_fits : (rF v0 v1 v2 v3 v4 v5 v6 v7 v8 v9).lookup ("fits" : Str) = none := (lk_on (by decide +kernel)).trans ((lk_on (by decide +kernel)).trans ((lk_on (by decide +kernel)).trans ((lk_on (by decide +kernel)).trans ((lk_on (by decide +kernel)).trans ((lk_on (by decide +kernel)).trans ((lk_on (by decide +kernel)).trans ((lk_on (by decide +kernel)).trans ((lk_on (by decide +kernel)).trans ((lk_on (by decide +kernel)).trans (rfl))))))))))
theorem rF_no_has_place : (rF v0 v1 v2 v3 v4 v5 v6 v7 v8 v9).lookup ("has_place" : Str) = none := (lk_on (by decide +kernel)).trans ((lk_on (by decide +kernel)).trans ((lk_on (by decide +kernel)).trans ((lk_on (by decide +kernel)).trans ((lk_on (by decide +kernel)).trans ((lk_on (by decide +kernel)).trans ((lk_on (by decide +kernel)).trans ((lk_on (by decide +kernel)).trans ((lk_on (by decide +kernel)).trans ((lk_on (by decide +kernel)).trans (rfl))))))))))
theorem rF_no_has_player : (rF v0 v1 v2 v3 v4 v5 v6 v7 v8 v9).lookup ("has_player" : Str) = none := (lk_on (by decide +kernel)).trans ((lk_on (by decide +kernel)).trans ((lk_on (by decide +kernel)).trans ((lk_on (by decide +kernel)).trans ((lk_on (by decide +kernel)).trans ((lk_on (by decide +kernel)).trans ((lk_on (by decide +kernel)).trans ((lk_on (by decide +kernel)).trans ((lk_on (by decide +kernel)).trans ((lk_on (by decide +kernel)).trans (rfl))))))))))
theorem rF_no_has_tile : (rF v0 v1 v2 v3 v4 v5 v6 v7 v8 v9).lookup ("has_tile" : Str) = none := (lk_on (by decide +kernel)).trans ((lk_on (by decide +kernel)).trans ((lk_on (by decide +kernel)).trans ((lk_on (by decide +kernel)).trans ((lk_on (by decide +kernel)).trans ((lk_on (by decide +kernel)).trans ((lk_on (by decide +kernel)).trans ((lk_on (by decide +kernel)).trans ((lk_on (by decide +kernel)).trans ((lk_on (by decide +kernel)).trans (rfl))))))))))
theorem rF_no_is_all_shown : (rF v0 v1 v2 v3 v4 v5 v6 v7 v8 v9).lookup ("is_all_shown" : Str) = none := (lk_on (by decide +kernel)).trans ((lk_on (by decide +kernel)).trans ((lk_on (by decide +kernel)).trans ((lk_on (by decide +kernel)).trans ((lk_on (by decide +kernel)).trans ((lk_on (by decide +kernel)).trans ((lk_on (by decide +kernel)).trans ((lk_on (by decide +kernel)).trans ((lk_on (by decide +kernel)).trans ((lk_on (by decide +kernel)).trans (rfl))))))))))
theorem rF_no_is_lacking : (rF v0 v1 v2 v3 v4 v5 v6 v7 v8 v9).lookup ("is_lacking" : Str) = none := (lk_on (by decide +kernel)).trans ((lk_on (by decide +kernel)).trans ((lk_on (by decide +kernel)).trans ((lk_on (by decide +kernel)).trans ((lk_on (by decide +kernel)).trans ((lk_on (by decide +kernel)).trans ((lk_on (by decide +kernel)).trans ((lk_on (by decide +kernel)).trans ((lk_on (by decide +kernel)).trans ((lk_on (by decide +kernel)).trans (rfl))))))))))
theorem rF_no_is_over : (rF v0 v1 v2 v3 v4 v5 v6 v7 v8 v9).lookup ("is_over" : Str) = none := (lk_on (by decide +kernel)).trans ((lk_on (by decide +kernel)).trans ((lk_on (by decide +kernel)).trans ((lk_on (by decide +kernel)).trans ((lk_on (by decide +kernel)).trans ((lk_on (by decide +kernel)).trans ((lk_on (by decide +kernel)).trans ((lk_on (by decide +kernel)).trans ((lk_on (by decide +kernel)).trans ((lk_on (by decide +kernel)).trans (rfl))))))))))
theorem rF_no_lay : (rF v0 v1 v2 v3 v4 v5 v6 v7 v8 v9).lookup ("lay" : Str) = none := (lk_on (by decide +kernel)).trans ((lk_on (by decide +kernel)).trans ((lk_on (by decide +kernel)).trans ((lk_on (by decide +kernel)).trans ((lk_on (by decide +kernel)).trans ((lk_on (by decide +kernel)).trans ((lk_on (by decide +kernel)).trans ((lk_on (by decide +kernel)).trans ((lk_on (by decide +kernel)).trans ((lk_on (by decide +kernel)).trans (rfl))))))))))
theorem rF_no_lies : (rF v0 v1 v2 v3 v4 v5 v6 v7 v8 v9).lookup ("lies" : Str) = none := (lk_on (by decide +kernel)).trans ((lk_on (by decide +kernel)).trans ((lk_on (by decide +kernel)).trans ((lk_on (by decide +kernel)).trans ((lk_on (by decide +kernel)).trans ((lk_on (by decide +kernel)).trans ((lk_on (by decide +kernel)).trans ((lk_on (by decide +kernel)).trans ((lk_on (by decide +kernel)).trans ((lk_on (by decide +kernel)).trans (rfl))))))))))
theorem rF_no_note_hand : (rF v0 v1 v2 v3 v4 v5 v6 v7 v8 v9).lookup ("note_hand" : Str) = none := (lk_on (by decide +kernel)).trans ((lk_on (by decide +kernel)).trans ((lk_on (by decide +kernel)).trans ((lk_on (by decide +kernel)).trans ((lk_on (by decide +kernel)).trans ((lk_on (by decide +kernel)).trans ((lk_on (by decide +kernel)).trans ((lk_on (by decide +kernel)).trans ((lk_on (by decide +kernel)).trans ((lk_on (by decide +kernel)).trans (rfl))))))))))
theorem rF_no_note_known : (rF v0 v1 v2 v3 v4 v5 v6 v7 v8 v9).lookup ("note_known" : Str) = none := (lk_on (by decide +kernel)).trans ((lk_on (by decide +kernel)).trans ((lk_on (by decide +kernel)).trans ((lk_on (by decide +kernel)).trans ((lk_on (by decide +kernel)).trans ((lk_on (by decide +kernel)).trans ((lk_on (by decide +kernel)).trans ((lk_on (by decide +kernel)).trans ((lk_on (by decide +kernel)).trans ((lk_on (by decide +kernel)).trans (rfl))))))))))
theorem rF_no_note_pass : (rF v0 v1 v2 v3 v4 v5 v6 v7 v8 v9).lookup ("note_pass" : Str) = none := (lk_on (by decide +kernel)).trans ((lk_on (by decide +kernel)).trans ((lk_on (by decide +kernel)).trans ((lk_on (by decide +kernel)).trans ((lk_on (by decide +kernel)).trans ((lk_on (by decide +kernel)).trans ((lk_on (by decide +kernel)).trans ((lk_on (by decide +kernel)).trans ((lk_on (by decide +kernel)).trans ((lk_on (by decide +kernel)).trans (rfl))))))))))
theorem rF_no_places_of : (rF v0 v1 v2 v3 v4 v5 v6 v7 v8 v9).lookup ("places_of" : Str) = none := (lk_on (by decide +kernel)).trans ((lk_on (by decide +kernel)).trans ((lk_on (by decide +kernel)).trans ((lk_on (by decide +kernel)).trans ((lk_on (by decide +kernel)).trans ((lk_on (by decide +kernel)).trans ((lk_on (by decide +kernel)).trans ((lk_on (by decide +kernel)).trans ((lk_on (by decide +kernel)).trans ((lk_on (by decide +kernel)).trans (rfl))))))))))
theorem rF_no_stands : (rF v0 v1 v2 v3 v4 v5 v6 v7 v8 v9).lookup ("stands" : Str) = none := (lk_on (by decide +kernel)).trans ((lk_on (by decide +kernel)).trans ((lk_on (by decide +kernel)).trans ((lk_on (by decide +kernel)).trans ((lk_on (by decide +kernel)).trans ((lk_on (by decide +kernel)).trans ((lk_on (by decide +kernel)).trans ((lk_on (by decide +kernel)).trans ((lk_on (by decide +kernel)).trans ((lk_on (by decide +kernel)).trans (rfl))))))))))
theorem rF_no_winner : (rF v0 v1 v2 v3 v4 v5 v6 v7 v8 v9).lookup ("winner" : Str) = none := (lk_on (by decide +kernel)).trans ((lk_on (by decide +kernel)).trans ((lk_on (by decide +kernel)).trans ((lk_on (by decide +kernel)).trans ((lk_on (by decide +kernel)).trans ((lk_on (by decide +kernel)).trans ((lk_on (by decide +kernel)).trans ((lk_on (by decide +kernel)).trans ((lk_on (by decide +kernel)).trans ((lk_on (by decide +kernel)).trans (rfl))))))))))
theorem rS_0 : putF "players" v0 ([] : List (Str × V)) = ([("players", v0)] : List (Str × V)) := pt_end
theorem rS_1 : putF "greatest" v1 ([("players", v0)] : List (Str × V)) = ([("players", v0), ("greatest", v1)] : List (Str × V)) := (pt_on (by decide +kernel)).trans (congrArg _ (pt_end))
theorem rS_2 : putF "turn" v2 ([("players", v0), ("greatest", v1)] : List (Str × V)) = ([("players", v0), ("greatest", v1), ("turn", v2)] : List (Str × V)) := (pt_on (by decide +kernel)).trans (congrArg _ ((pt_on (by decide +kernel)).trans (congrArg _ (pt_end))))
theorem rS_3 : putF "line" v3 ([("players", v0), ("greatest", v1), ("turn", v2)] : List (Str × V)) = ([("players", v0), ("greatest", v1), ("turn", v2), ("line", v3)] : List (Str × V)) := (pt_on (by decide +kernel)).trans (congrArg _ ((pt_on (by decide +kernel)).trans (congrArg _ ((pt_on (by decide +kernel)).trans (congrArg _ (pt_end))))))
theorem rS_4 : putF "hidden" v4 ([("players", v0), ("greatest", v1), ("turn", v2), ("line", v3)] : List (Str × V)) = ([("players", v0), ("greatest", v1), ("turn", v2), ("line", v3), ("hidden", v4)] : List (Str × V)) := (pt_on (by decide +kernel)).trans (congrArg _ ((pt_on (by decide +kernel)).trans (congrArg _ ((pt_on (by decide +kernel)).trans (congrArg _ ((pt_on (by decide +kernel)).trans (congrArg _ (pt_end))))))))
theorem rS_5 : putF "room" v5 ([("players", v0), ("greatest", v1), ("turn", v2), ("line", v3), ("hidden", v4)] : List (Str × V)) = ([("players", v0), ("greatest", v1), ("turn", v2), ("line", v3), ("hidden", v4), ("room", v5)] : List (Str × V)) := (pt_on (by decide +kernel)).trans (congrArg _ ((pt_on (by decide +kernel)).trans (congrArg _ ((pt_on (by decide +kernel)).trans (congrArg _ ((pt_on (by decide +kernel)).trans (congrArg _ ((pt_on (by decide +kernel)).trans (congrArg _ (pt_end))))))))))
theorem rS_6 : putF "known" v6 ([("players", v0), ("greatest", v1), ("turn", v2), ("line", v3), ("hidden", v4), ("room", v5)] : List (Str × V)) = ([("players", v0), ("greatest", v1), ("turn", v2), ("line", v3), ("hidden", v4), ("room", v5), ("known", v6)] : List (Str × V)) := (pt_on (by decide +kernel)).trans (congrArg _ ((pt_on (by decide +kernel)).trans (congrArg _ ((pt_on (by decide +kernel)).trans (congrArg _ ((pt_on (by decide +kernel)).trans (congrArg _ ((pt_on (by decide +kernel)).trans (congrArg _ ((pt_on (by decide +kernel)).trans (congrArg _ (pt_end))))))))))))
theorem rS_7 : putF "lacks" v7 ([("players", v0), ("greatest", v1), ("turn", v2), ("line", v3), ("hidden", v4), ("room", v5), ("known", v6)] : List (Str × V)) = ([("players", v0), ("greatest", v1), ("turn", v2), ("line", v3), ("hidden", v4), ("room", v5), ("known", v6), ("lacks", v7)] : List (Str × V)) := (pt_on (by decide +kernel)).trans (congrArg _ ((pt_on (by decide +kernel)).trans (congrArg _ ((pt_on (by decide +kernel)).trans (congrArg _ ((pt_on (by decide +kernel)).trans (congrArg _ ((pt_on (by decide +kernel)).trans (congrArg _ ((pt_on (by decide +kernel)).trans (congrArg _ ((pt_on (by decide +kernel)).trans (congrArg _ (pt_end))))))))))))))
theorem rS_8 : putF "passes" v8 ([("players", v0), ("greatest", v1), ("turn", v2), ("line", v3), ("hidden", v4), ("room", v5), ("known", v6), ("lacks", v7)] : List (Str × V)) = ([("players", v0), ("greatest", v1), ("turn", v2), ("line", v3), ("hidden", v4), ("room", v5), ("known", v6), ("lacks", v7), ("passes", v8)] : List (Str × V)) := (pt_on (by decide +kernel)).trans (congrArg _ ((pt_on (by decide +kernel)).trans (congrArg _ ((pt_on (by decide +kernel)).trans (congrArg _ ((pt_on (by decide +kernel)).trans (congrArg _ ((pt_on (by decide +kernel)).trans (congrArg _ ((pt_on (by decide +kernel)).trans (congrArg _ ((pt_on (by decide +kernel)).trans (congrArg _ ((pt_on (by decide +kernel)).trans (congrArg _ (pt_end))))))))))))))))
theorem rS_9 : putF "shown" v9 ([("players", v0), ("greatest", v1), ("turn", v2), ("line", v3), ("hidden", v4), ("room", v5), ("known", v6), ("lacks", v7), ("passes", v8)] : List (Str × V)) = ([("players", v0), ("greatest", v1), ("turn", v2), ("line", v3), ("hidden", v4), ("room", v5), ("known", v6), ("lacks", v7), ("passes", v8), ("shown", v9)] : List (Str × V)) := (pt_on (by decide +kernel)).trans (congrArg _ ((pt_on (by decide +kernel)).trans (congrArg _ ((pt_on (by decide +kernel)).trans (congrArg _ ((pt_on (by decide +kernel)).trans (congrArg _ ((pt_on (by decide +kernel)).trans (congrArg _ ((pt_on (by decide +kernel)).trans (congrArg _ ((pt_on (by decide +kernel)).trans (congrArg _ ((pt_on (by decide +kernel)).trans (congrArg _ ((pt_on (by decide +kernel)).trans (congrArg _ (pt_end))))))))))))))))))
theorem rG_5_hidden : List.lookup ("hidden" : Str) ([("players", v0), ("greatest", v1), ("turn", v2), ("line", v3), ("hidden", v4)] : List (Str × V)) = some v4 := (lk_on (by decide +kernel)).trans ((lk_on (by decide +kernel)).trans ((lk_on (by decide +kernel)).trans ((lk_on (by decide +kernel)).trans (lk_at))))
end
def wF (v0 : V) : List (Str × V) := [("seen", v0)]
section
variable {v0 y : V}
theorem wF_seen : (wF v0).lookup ("seen" : Str) = some v0 := lk_at
theorem wP_seen : putF "seen" y (wF v0) = wF y := pt_at
theorem wF_no_begin : (wF v0).lookup ("begin" : Str) = none := (lk_on (by decide +kernel)).trans (rfl)
theorem wF_no_count_fitting : (wF v0).lookup ("count_fitting" : Str) = none := (lk_on (by decide +kernel)).trans (rfl)
theorem wF_no_hand_refusal : (wF v0).lookup ("hand_refusal" : Str) = none := (lk_on (by decide +kernel)).trans (rfl)
theorem wF_no_has_round : (wF v0).lookup ("has_round" : Str) = none := (lk_on (by decide +kernel)).trans (rfl)
theorem wF_no_know : (wF v0).lookup ("know" : Str) = none := (lk_on (by decide +kernel)).trans (rfl)
theorem wF_no_know_refusal : (wF v0).lookup ("know_refusal" : Str) = none := (lk_on (by decide +kernel)).trans (rfl)
theorem wF_no_may : (wF v0).lookup ("may" : Str) = none := (lk_on (by decide +kernel)).trans (rfl)
theorem wF_no_may_refusal : (wF v0).lookup ("may_refusal" : Str) = none := (lk_on (by decide +kernel)).trans (rfl)
theorem wF_no_now : (wF v0).lookup ("now" : Str) = none := (lk_on (by decide +kernel)).trans (rfl)
theorem wF_no_pass_by : (wF v0).lookup ("pass_by" : Str) = none := (lk_on (by decide +kernel)).trans (rfl)
theorem wF_no_pass_refusal : (wF v0).lookup ("pass_refusal" : Str) = none := (lk_on (by decide +kernel)).trans (rfl)
theorem wF_no_play : (wF v0).lookup ("play" : Str) = none := (lk_on (by decide +kernel)).trans (rfl)
theorem wF_no_play_refusal : (wF v0).lookup ("play_refusal" : Str) = none := (lk_on (by decide +kernel)).trans (rfl)
theorem wF_no_score : (wF v0).lookup ("score" : Str) = none := (lk_on (by decide +kernel)).trans (rfl)
theorem wF_no_show : (wF v0).lookup ("show" : Str) = none := (lk_on (by decide +kernel)).trans (rfl)
theorem wF_no_show_refusal : (wF v0).lookup ("show_refusal" : Str) = none := (lk_on (by decide +kernel)).trans (rfl)
theorem wF_no_tell_line : (wF v0).lookup ("tell_line" : Str) = none := (lk_on (by decide +kernel)).trans (rfl)
theorem wS_0 : putF "seen" v0 ([] : List (Str × V)) = ([("seen", v0)] : List (Str × V)) := pt_end
end
end Dm
/-! ## DmKeys -/
/-! Tables whose keys are tuples without attributes of their own (so that a tuple's method may be called on a key): the tuples are held as they are, the dict by its entries. -/
namespace Dm
open PySem PySem.Spec PyProof.Rows L2

/-! ### numbers as Python has them -/
def nV (n : Nat) : V := .int (n : Int)
def nsV (l : List Nat) : List V := l.map nV
def keyN (k : List Nat) : List Key := k.map fun (n : Nat) => (Sum.inl (n : Int) : Key)
theorem keyN_kV (k : List Nat) : (keyN k).map kV = nsV k := by
  unfold keyN nsV
  rw [List.map_map]
  rfl
theorem keyN_inj : ∀ {a b : List Nat}, keyN a = keyN b → a = b
  | [], [], _ => rfl
  | [], _ :: _, e => absurd e (by simp [keyN])
  | _ :: _, [], e => absurd e (by simp [keyN])
  | x :: xs, y :: ys, e => by
    have e' : (Sum.inl (x : Int) : Key) :: keyN xs = Sum.inl (y : Int) :: keyN ys := e
    injection e' with e1 e2
    injection e1 with e1
    rw [keyN_inj e2, Int.ofNat.inj e1]
theorem nsV_len (l : List Nat) : (nsV l).length = l.length := List.length_map _
theorem nsV_get {l : List Nat} {i : Nat} {x : V} (h : (nsV l)[i]? = some x) : ∃ n, l[i]? = some n ∧ x = nV n := by
  unfold nsV at h
  rw [List.getElem?_map] at h
  obtain ⟨n, hn, e⟩ := Option.map_eq_some_iff.mp h
  exact ⟨n, hn, e.symm⟩
theorem nsV_at {l : List Nat} {i : Nat} (h : i < l.length) : (nsV l)[i]? = some (nV (l.getD i 0)) := by
  unfold nsV
  rw [List.getElem?_map, List.getElem?_eq_getElem h, List.getD_eq_getElem?_getD, List.getElem?_eq_getElem h]
  rfl
theorem atI_nV {l : List Nat} {i : Nat} (h : i < l.length) : atI (nsV l) (i : Int) = some (nV (l.getD i 0)) := atI_nat (nsV_at h)

/-! ### a table with the places of its keys -/
abbrev TabA := List (List Nat × Addr × Nat)
def tabOf (xs : TabA) : Tab := xs.map fun e => (e.1, e.2.2)
def putA (xs : TabA) (k : List Nat) (b : Addr) (v : Nat) : TabA :=
  if ((tabOf xs).any fun kv => decide (kv.1 = k)) = true then xs.map (fun e => if e.1 = k then (e.1, e.2.1, v) else e) else xs ++ [(k, b, v)]
theorem tabOf_put (xs : TabA) (k : List Nat) (b : Addr) (v : Nat) : tabOf (putA xs k b v) = putT (tabOf xs) k v := by
  unfold putA putT
  by_cases q : ((tabOf xs).any fun kv => decide (kv.1 = k)) = true
  · rw [if_pos q, if_pos q]
    unfold tabOf
    rw [List.map_map, List.map_map]
    apply List.map_congr_left
    intro e _
    show (fun e : List Nat × Addr × Nat => (e.1, e.2.2)) (if e.1 = k then (e.1, e.2.1, v) else e) = if e.1 = k then (e.1, v) else (e.1, e.2.2)
    by_cases z : e.1 = k
    · rw [if_pos z, if_pos z]
    · rw [if_neg z, if_neg z]
  · rw [if_neg q, if_neg q]
    unfold tabOf
    rw [List.map_append]
    rfl
theorem tabOf_len (xs : TabA) : (tabOf xs).length = xs.length := List.length_map _
theorem putA_len (xs : TabA) (k : List Nat) (b : Addr) (v : Nat) : (putA xs k b v).length ≤ xs.length + 1 := by
  unfold putA
  split
  · rw [List.length_map]
    omega
  · rw [List.length_append]
    exact Nat.le_refl _
theorem putA_mem {xs : TabA} {k : List Nat} {b : Addr} {v : Nat} {e : List Nat × Addr × Nat} (h : e ∈ putA xs k b v) : (∃ e' ∈ xs, e'.1 = e.1 ∧ e'.2.1 = e.2.1) ∨ (e.1 = k ∧ e.2.1 = b) := by
  unfold putA at h
  split at h
  · obtain ⟨x, hx, rfl⟩ := List.mem_map.mp h
    refine .inl ⟨x, hx, ?_⟩
    split <;> exact ⟨rfl, rfl⟩
  · rcases List.mem_append.mp h with m | m
    · exact .inl ⟨e, m, rfl, rfl⟩
    · rw [List.mem_singleton.mp m]
      exact .inr ⟨rfl, rfl⟩
abbrev KN (xs : TabA) (ys : List (List Key × Addr × Value)) : Prop := Paired (fun (p : List Nat × Addr × Nat) (q : List Key × Addr × Value) => keyN p.1 = q.1 ∧ p.2.1 = q.2.1 ∧ RelV (nV p.2.2) q.2.2) xs ys
theorem KN.get {xs : TabA} {ys : List (List Key × Addr × Value)} (r : KN xs ys) (k : List Nat) : RelO ((getT (tabOf xs) k).map nV) ((atKey ys (keyN k)).map (·.2)) := by
  induction r with
  | nil => exact True.intro
  | @cons p q ps qs h t ih =>
    obtain ⟨h1, _, h2⟩ := h
    by_cases e : p.1 = k
    · have e' : q.1 = keyN k := by rw [← h1, e]
      have b : atKey (q :: qs) (keyN k) = some q.2 := by simp [atKey, List.find?_cons, e']
      have a : getT (tabOf (p :: ps)) k = some p.2.2 := by simp [getT, tabOf, List.find?_cons, e]
      rw [a, b]
      exact h2
    · have e' : ¬ q.1 = keyN k := fun z => e (keyN_inj (h1.trans z))
      have b : atKey (q :: qs) (keyN k) = atKey qs (keyN k) := by simp [atKey, List.find?_cons, e']
      have a : getT (tabOf (p :: ps)) k = getT (tabOf ps) k := by simp [getT, tabOf, List.find?_cons, e]
      rw [a, b]
      exact ih
theorem getT_isSome (d : Tab) (k : List Nat) : (d.any fun kv => decide (kv.1 = k)) = (getT d k).isSome := by
  unfold getT
  rw [Option.isSome_map, List.isSome_find?]
theorem KN.put {xs : TabA} {ys : List (List Key × Addr × Value)} (r : KN xs ys) (k : List Nat) (b : Addr) {v : Nat} {u : Value} (ru : RelV (nV v) u) : KN (putA xs k b v) (storedH ys (keyN k) b u) := by
  have e : ((tabOf xs).any fun kv => decide (kv.1 = k)) = (atKey ys (keyN k)).isSome := by
    have := (r.get k).isSome_eq
    rw [Option.isSome_map, Option.isSome_map] at this
    rw [getT_isSome, this]
  unfold putA storedH
  rw [e]
  by_cases q : (atKey ys (keyN k)).isSome = true
  · rw [if_pos q, if_pos q]
    clear e q
    induction r with
    | nil => exact .nil
    | @cons p q ps qs h t ih =>
      rw [List.map_cons, List.map_cons]
      refine .cons ?_ ih
      obtain ⟨h1, h2, h3⟩ := h
      unfold putAt
      by_cases e : p.1 = k
      · rw [if_pos e, if_pos (by rw [← h1, e])]
        exact ⟨h1, h2, ru⟩
      · rw [if_neg e, if_neg (fun z => e (keyN_inj (h1.trans z)))]
        exact ⟨h1, h2, h3⟩
  · rw [if_neg q, if_neg q]
    exact Paired.snoc r ⟨rfl, rfl, ru⟩

/-! ### how it lies -/
/-- the tuple at q, held as it is; it has no attributes of its own -/
def FrT (H : Hp) (q : Addr) (xs : List V) : Prop := ∃ o : Obj, o.dict = none ∧ H q = some (.frz o (.tup xs))
theorem FrT.sq {K : PySem.W.Frag} {H : Hp} {q : Addr} {xs : List V} (h : FrT H q xs) : SqT K H q xs := let ⟨o, _, e⟩ := h; .inl (.inr ⟨o, e⟩)
theorem FrT.same {H H' : Hp} {q : Addr} {xs : List V} (h : FrT H q xs) (s : ∀ b o u, H b = some (.frz o u) → H' b = some (.frz o u)) : FrT H' q xs := let ⟨o, n, e⟩ := h; ⟨o, n, s _ _ _ e⟩
def FKeys (H : Hp) (xs : TabA) : Prop := ∀ e ∈ xs, FrT H e.2.1 (nsV e.1)
structure FDok (P : Program) (w : World) (h : Heap) (a : Addr) (xs : TabA) : Prop where
  len : xs.length ≤ sizeLine
  low : (a == sysModules) = false
  ex : ∃ ys : List (List Key × Addr × Value), KN xs ys ∧ ∃ o es ep, h.get? a = some o ∧ o.ExactDict ∧ o.data = .dict es ep ∧ es.toList = ys.map (entryOfKey (tupleKind (mixKind P w))) ∧ (ys.map (·.1)).Nodup
def FD (P : Program) (w : World) (a : Addr) (xs : TabA) : HO := .ext fun h => FDok P w h a xs
theorem fd_new {P : Program} {w : World} {H : Hp} {h : Heap} {a : Addr} {xs : TabA} (z : FDok P w h a xs) : ObjOk P w H h a (FD P w a xs) := by
  obtain ⟨ys, r, o, es, ep, ho, q⟩ := z.ex
  refine ⟨z, ⟨o, ho⟩, fun h1 h2 p k => ?_⟩
  obtain ⟨ys', r', o', es', ep', ho', q'⟩ := FDok.ex p
  exact ⟨p.len, p.low, ys', r', o', es', ep', k o' ho', q'⟩
section
variable {P : Program} {w : World} {H : Hp} {h : Heap} {a : Addr}
theorem key_ofF {k : List Nat} (ok : HOk P w H h) (e : FrT H a (nsV k)) : (tupleKind (mixKind P w)).is h (keyN k) a := by
  obtain ⟨ob, _, e⟩ := e
  obtain ⟨_, _, its, r, o, h1, h2, n, h3⟩ := (show ObjOk P w H h a (.frz ob (.tup (nsV k))) from ok a _ e)
  rw [← keyN_kV] at r
  exact ⟨o, its.toArray, n, h1, h2, h3, by simpa using items_are r⟩
theorem fd_rd {xs : TabA} (ok : HOk P w H h) (e : Rd H a (FD P w a xs)) (fk : FKeys H xs) : xs.length ≤ sizeLine ∧ (a == sysModules) = false ∧
    ∃ ys, KN xs ys ∧ h.DictOfH (tupleKind (mixKind P w)) a ys := by
  have z : FDok P w h a xs := (show ObjOk P w H h a (FD P w a xs) from e.ok ok).1
  obtain ⟨ys, r, o, es, ep, h1, h2, h3, h4, h5⟩ := z.ex
  refine ⟨z.len, z.low, ys, r, o, es, ep, h1, h2, h3, h4, ?_, h5⟩
  have all : ∀ {l : TabA} {m : List (List Key × Addr × Value)}, KN l m → FKeys H l → ∀ x ∈ m, (tupleKind (mixKind P w)).is h x.1 x.2.1 := by
    intro l m q
    induction q with
    | nil => intro _ x hx; exact nomatch hx
    | @cons p q ps qs hq t ih =>
      intro fk x hx
      rcases List.mem_cons.mp hx with e | hx
      · subst e
        have := key_ofF ok (fk p (List.mem_cons.mpr (.inl rfl)))
        rw [hq.2.1, hq.1] at this
        exact this
      · exact ih (fun e he => fk e (List.mem_cons.mpr (.inr he))) x hx
  exact all r fk
end

/-! ### the rules -/
section
variable {X : Cx} {pins : List (Addr × Obj)} {σ : L2.St} {H : Hp} {s : Shared} {a b : Addr} {xs : TabA} {k : List Nat} {A : Around} {E : Value → Shared → Prop}
theorem f_getItem {n : Nat} {Q : Value → Shared → Prop} (hu : A.units + 1 < cLine) (I : Inv X pins σ H s) (e : Rd H a (FD X.prog X.w a xs)) (fk : FKeys H xs) (hb : FrT H b (nsV k)) (g : getT (tabOf xs) k = some n)
    (h : ∀ w' s', Inv X pins σ H s' → RelV (nV n) w' → Q w' s') : wpAny (model X.prog X.w) A (getItem (.ref a) (.ref b)) Q E s := by
  obtain ⟨z, hd, ys, rel, dd⟩ := fd_rd I.hok e fk
  obtain ⟨w', hw, rw'⟩ := RelO.some_of (v := nV n) (o := (atKey ys (keyN k)).map (·.2)) (by have := rel.get k; rw [g] at this; exact this)
  obtain ⟨p, hp, hp2⟩ := Option.map_eq_some_iff.mp hw
  refine wpAny_getItem_heap (tupleKind_room_in1 hu) (key_ofF I.hok hb) dd hp ?_
  rw [hp2]
  exact h w' _ (I.tok _) rw'
theorem f_get2 {n : Nat} {r : Value} {Q : Value → Shared → Prop} (hu : A.units + 1 < cLine) (I : Inv X pins σ H s) (e : Rd H a (FD X.prog X.w a xs)) (fk : FKeys H xs) (hb : FrT H b (nsV k)) (rd : RelV (nV n) r)
    (h : ∀ w' s', Inv X pins σ H s' → RelV (nV ((getT (tabOf xs) k).getD n)) w' → Q w' s') : wpAny (model X.prog X.w) A (call (.builtin "dict.get") [.ref a, .ref b, r]) Q E s := by
  obtain ⟨z, hd, ys, rel, dd⟩ := fd_rd I.hok e fk
  refine call_meetsIn PySem.F.slot_dict_get dd.typeIs PySem.F.entry_dict_get (PySem.F.args_dict_get_3 _ _ _) (meetsH_dict_get_default (tupleKind (mixKind X.prog X.w)) a b hd r) ⟨tupleKind_room_in1 hu, keyN k, ys, key_ofF I.hok hb, dd, h _ _ (I.tok _) ?_⟩
  have := (rel.get k).getD rd
  cases q : getT (tabOf xs) k with
  | none => rw [q] at this; exact this
  | some m => rw [q] at this; exact this
theorem f_setItem {n : Nat} {r : Value} {Q : Unit → Shared → Prop} (hu : A.units + 1 < cLine) (I : Inv X pins σ H s) (e : H a = some (FD X.prog X.w a xs)) (fk : FKeys H xs) (hb : FrT H b (nsV k)) (hl : xs.length < sizeLine) (rv : RelV (nV n) r)
    (h : ∀ s', Inv X pins σ (upd H a (FD X.prog X.w a (putA xs k b n))) s' → Q () s') : wpAny (model X.prog X.w) A (setItem (.ref a) (.ref b) r) Q E s := by
  obtain ⟨z, hd, ys, rel, dd⟩ := fd_rd I.hok (.inl e) fk
  have hz : ys.length ≤ sizeLine := by rw [← Paired.length rel]; exact z
  have hl' : (putA xs k b n).length ≤ sizeLine := by have := putA_len xs k b n; omega
  refine wpAny_setItem_heap (hsz := hz) (tupleKind_room_in1 hu) (key_ofF I.hok hb) dd fun h' dd' hs => h _ ?_
  obtain ⟨q, es, ep, hq, h2, h3, h4, _, h5⟩ := dd'
  exact d_write I (by rw [e]; exact True.intro) hs ⟨q, hq⟩ (fd_new ⟨hl', hd, _, rel.put k b rv, q, es, ep, hq, h2, h3, h4, h5⟩)
theorem f_typeIs (I : Inv X pins σ H s) (e : Rd H a (FD X.prog X.w a xs)) : s.TypeIs (.ref a) "dict" ∧ (∀ c, Value.ref a = .ref c → ∃ ob, s.heap.get? c = some ob ∧ ob.dict = none) := by
  have z : FDok X.prog X.w s.heap a xs := (show ObjOk X.prog X.w H s.heap a (FD X.prog X.w a xs) from e.ok I.hok).1
  obtain ⟨ys, r, o, es, ep, h1, h2, h3, h4, h5⟩ := z.ex
  exact ⟨⟨o, h1, h2.1⟩, fun c q => by cases q; exact ⟨o, h1, h2.2.1⟩⟩
end

/-- {} -/
def tNewF (P : Program) (w : World) : TE := fun _ H Q => ∀ p, H p = none → Q (.ref p) (upd H p (FD P w p []))
/-- d[t] -/
def tGetF (P : Program) (w : World) (td ty : TE) : TE := fun σ H Q => td σ H fun x H1 => ty σ H1 fun y H2 => ∃ a b xs k n, x = .ref a ∧ y = .ref b ∧ Rd H2 a (FD P w a xs) ∧ FKeys H2 xs ∧ FrT H2 b (nsV k) ∧ getT (tabOf xs) k = some n ∧ Q (nV n) H2
/-- d.get(t, n) -/
def tGet2F (P : Program) (w : World) (td ty tx : TE) : TE := fun σ H Q => td σ H fun x H1 => ∃ a xs, x = .ref a ∧ Rd H1 a (FD P w a xs) ∧ ty σ H1 fun y H2 => tx σ H2 fun z H3 => ∃ b k n, y = .ref b ∧ z = nV n ∧ Rd H3 a (FD P w a xs) ∧ FKeys H3 xs ∧ FrT H3 b (nsV k) ∧
  Q (nV ((getT (tabOf xs) k).getD n)) H3
/-- d[t] = v -/
def sPutF (P : Program) (w : World) (td ty tv : TE) : TS := fun D σ H => tv σ H fun v H1 => td σ H1 fun x H2 => ty σ H2 fun y H3 => ∃ a b xs k n, v = nV n ∧ x = .ref a ∧ y = .ref b ∧ H3 a = some (FD P w a xs) ∧ FKeys H3 xs ∧ FrT H3 b (nsV k) ∧ xs.length < sizeLine ∧
  D.nx σ (upd H3 a (FD P w a (putA xs k b n)))
section
variable {X : Cx} {o i e f value : Expr} {pos pos' apos cpos : Pos} {td ty tx tv : TE}
theorem pe_dnewF : PE X (.Dict [] [] pos) (tNewF X.prog X.w) := ⟨fun pins s σ H Q I h =>
  wpAny_Dict_empty ⟨.ref s.heap.objs.size, _, I.laid (a := s.heap.objs.size) (o := FD X.prog X.w s.heap.objs.size []) (t' := s.toks) (fun _ _ q => Heap.get?_push_of_some _ q) (Nat.le_refl _) (by
    obtain ⟨z, low, ys, rel, ob, es, ep, ho, hc, hd, hk, hn⟩ := (show ObjOk X.prog X.w (upd H s.heap.objs.size (.dT [])) _ s.heap.objs.size (.dT []) from dt_empty s.heap I.big)
    cases rel
    exact fd_new ⟨Nat.zero_le _, low, [], .nil, ob, es, ep, ho, hc, hd, hk, hn⟩), rfl, h _ (I.hok.fresh (Nat.le_refl _))⟩⟩
theorem pe_dgetF (hu : X.A.units + 1 < cLine) (ho : PE X o td) (hi : PE X i ty) (hs : NoSl i) : PE X (.Subscript o i pos) (tGetF X.prog X.w td ty) := by
  refine ⟨fun pins s σ H Q I h => ?_⟩
  refine subD_of PySem.F.slot_dict_getitem.lookup hs (thn (ho.run pins s σ H _ I h) fun u s1 ⟨x, H1, I1, rx, q1⟩ => thn (hi.run pins s1 σ H1 _ I1 q1) fun iv s2 ⟨y, H2, I2, ry, a, b, xs, k, n, ex, ey, g1, g2, g3, g4, q2⟩ => ?_)
  subst ex ey
  obtain rfl : u = Value.ref a := rx
  obtain rfl : iv = Value.ref b := ry
  exact ⟨(f_typeIs I2 g1).1, f_getItem hu I2 g1 g2 g3 g4 fun w' s3 I3 rw' => ⟨nV n, H2, I3, rw', q2⟩⟩
theorem pe_dget2F (hu : X.A.units + 1 < cLine) (ho : PE X o td) (he : PE X e ty) (hf : PE X f tx) (m : M2 X o "get" apos e f cpos) : PE X (.Call (.Attribute o "get" apos) [e, f] [] cpos) (tGet2F X.prog X.w td ty tx) := by
  refine ⟨fun pins s σ H Q I h => ?_⟩
  refine wpAny_Call_method m.base m.few m.line PySem.F.plainAttrs_dict PySem.F.slot_dict_get PySem.F.type_dict_get (thn (ho.run pins s σ H _ I h) fun u s1 ⟨x, H1, I1, rx, a, xs, ex, d, q1⟩ => ?_)
  subst ex
  obtain rfl : u = Value.ref a := rx
  obtain ⟨t1, t2⟩ := f_typeIs I1 d
  refine ⟨t1, t2, ?_⟩
  rw [m.trees]
  refine Calls.callWith_builtin rfl (Calls.evalArgs_plain (Calls.spliced_cons (thn (he.run pins s1 σ H1 _ I1 q1) fun iv s2 ⟨y, H2, I2, ry, q2⟩ =>
    Calls.spliced_cons (thn (hf.run pins s2 σ H2 _ I2 q2) fun fv s3 ⟨z, H3, I3, rz, b, k, n, ey, ez, g1, g2, g3, q3⟩ => Calls.spliced_nil ?_))))
  subst ey ez
  obtain rfl : iv = Value.ref b := ry
  exact f_get2 hu I3 g1 g2 g3 rz fun w' s4 I4 rw' => ⟨_, H3, I4, rw', q3⟩
theorem ps_dputF (hu : X.A.units + 1 < cLine) (ho : PE X o td) (hi : PE X i ty) (hv : PE X value tv) (hs : swapsWith value (some (.Subscript o i pos')) pos.line X.env = pure false) :
    PS X (.Assign [.Subscript o i pos'] value pos) (sPutF X.prog X.w td ty tv) := by
  refine ⟨fun pins s σ H D I h => ?_⟩
  refine wpAny_Assign_Subscript (thn (hv.run pins s σ H _ I h) fun r s1 ⟨v, H1, I1, rv, q1⟩ => thn (ho.run pins s1 σ H1 _ I1 q1) fun u s2 ⟨x, H2, I2, rx, q2⟩ => thn (hi.run pins s2 σ H2 _ I2 q2) fun iv s3 ⟨y, H3, I3, ry, a, b, xs, k, n, ev, ex, ey, g1, g2, g3, g4, q3⟩ => ?_) hs
  subst ev ex ey
  obtain rfl : u = Value.ref a := rx
  obtain rfl : iv = Value.ref b := ry
  exact f_setItem hu I3 g1 g2 g3 g4 rv fun s4 I4 => ⟨σ, _, I4, q3⟩
end

/-! ### tuples as they are made -/
/-- a new tuple held as it is -/
def NewT (Q : VK) (H : Hp) (ys : List V) : Prop := ∀ (p : Addr) (o : Obj), H p = none → o.dict = none → Q (.ref p) (upd H p (.frz o (.tup ys)))
theorem inv_newT {X : Cx} {pins : List (Addr × Obj)} {σ : L2.St} {H : Hp} {s : Shared} {ys : List V} {its : List Value} {t' : Nat} (I : Inv X pins σ H s) (r : Vals ys its) (z : ys.length ≤ sizeLine) :
    Inv X pins σ (upd H s.heap.objs.size (.frz { cls := .type "tuple", data := .seq its.toArray } (.tup ys))) { s with heap := s.heap.push { cls := .type "tuple", data := .seq its.toArray }, toks := t' } :=
  I.laid (fun b o e => Heap.get?_push_of_some _ e) (Nat.le_refl _) ⟨Heap.get?_push_size _ rfl, z, its, r, ⟨_, Heap.get?_push_size _ rfl, rfl, _, rfl⟩⟩
/-- (a, b, ..) -/
def tTupF (t : TA) : TE := fun σ H Q => t σ H fun xs H1 => xs.length ≤ sizeLine ∧ NewT Q H1 xs
theorem pe_tupF {X : Cx} {es : List Expr} {pos : Pos} {t : TA} {x1} (h : PA X es t) : PE X (.Tuple es x1 pos) (tTupF t) := by
  refine ⟨fun pins s σ H Q I hq => ?_⟩
  refine wpAny_Tuple_spliced (thn (h.run pos pins s σ H _ I hq) fun us s1 ⟨xs, H1, I1, r, z, q⟩ => ⟨by rw [← r.length]; exact z, ?_⟩)
  exact ⟨.ref s1.heap.objs.size, _, inv_newT (t' := s1.toks) I1 r z, rfl, q _ _ (I1.hok.fresh (Nat.le_refl _)) rfl⟩
/-- tuple(xs), xs a list -/
theorem call_tupleF {X : Cx} : CallR X (.type "tuple") (fun xs H Q => ∃ p ys, xs = [.ref p] ∧ SqL X.K H p ys ∧ NewT Q H ys) := by
  intro pins s σ H xs us Q I r h
  obtain ⟨p, ys, rfl, hq, q⟩ := h
  obtain ⟨u, rfl, rx⟩ := vals1 r
  cases rx
  obtain ⟨its, r', pl, hz⟩ := I.list hq
  have hlen := r'.length
  refine call_tuple_list pl.isList (fun h' kp => ?_) (by simp only [List.size_toArray] <;> omega)
  have I1 : Inv X pins σ H { s with heap := h' } := I.kept (t' := s.toks) kp
  exact ⟨.ref h'.objs.size, _, inv_newT (t' := s.toks) I1 r' hz, rfl, q _ _ (I1.hok.fresh (Nat.le_refl _)) rfl⟩
/-- t + u -/
def rCatF (K : PySem.W.Frag) : R2 := fun x y H Q => ∃ a b xs ys, x = .ref a ∧ y = .ref b ∧ SqT K H a xs ∧ SqT K H b ys ∧ xs.length + ys.length ≤ sizeLine ∧
  (xs = [] → Q (.ref b) H) ∧ (xs ≠ [] → ys = [] → Q (.ref a) H) ∧ (xs ≠ [] → ys ≠ [] → NewT Q H (xs ++ ys))
theorem op_catF {X : Cx} : OpR X (binaryOp .Add) (rCatF X.K) := by
  intro pins s σ H x y v u Q I rx ry h
  obtain ⟨a, b, xs, ys, rfl, rfl, ha, hb, hz, q0, q1, q2⟩ := h
  cases rx
  cases ry
  obtain ⟨its, r1, p1, _⟩ := I.tuple ha
  obtain ⟨its2, r2, p2, _⟩ := I.tuple hb
  by_cases hx : xs = []
  · subst hx
    cases r1
    exact cat_tup0 p1 p2 ⟨.ref b, H, I, rfl, q0 rfl⟩
  · refine HT.cat_tup p1 p2 (fun z => hx (r1.nil_iff.mp z)) (fun z => ⟨.ref a, H, I, rfl, q1 hx (r2.nil_iff.mp z)⟩) (fun z => ?_) (by rw [← r1.length, ← r2.length]; exact hz)
    exact ⟨.ref s.heap.objs.size, _, inv_newT (t' := s.toks) I (r1.append r2) (by rw [List.length_append]; exact hz), rfl, q2 hx (fun w => z (r2.nil_iff.mpr w)) _ _ (I.hok.fresh (Nat.le_refl _)) rfl⟩

/-! ### {t: n}, one key; the new dict stands empty while they are made -/
def tDispF (P : Program) (w : World) (tk tv : TE) : TE := fun σ H Q => ∀ p, H p = none → tk σ (upd H p (.dT [])) fun x H1 => tv σ H1 fun y H2 => H2 p = some (.dT []) ∧ ∃ (b : Addr) (k : List Nat) (n : Nat), x = .ref b ∧ y = nV n ∧ FrT H2 b (nsV k) ∧
  Q (.ref p) (upd H2 p (FD P w p [(k, b, n)]))
theorem pe_dispF {X : Cx} {k v : Expr} {pos : Pos} {tk tv : TE} (hu : X.A.units + 1 < cLine) (hk : PE X k tk) (hv : PE X v tv) : PE X (.Dict [some k] [v] pos) (tDispF X.prog X.w tk tv) := by
  constructor
  intro pins s σ H Q I h
  have free := I.hok.fresh (Nat.le_refl s.heap.objs.size)
  have I0 := I.laid (a := s.heap.objs.size) (o := .dT []) (h' := s.heap.push { cls := .type "dict", data := .dict #[] }) (t' := s.toks) (fun _ _ q => Heap.get?_push_of_some _ q) (Nat.le_refl _) (dt_empty s.heap I.big)
  refine wpAny_Dict_any (by rfl) (by rfl) (by simp) (by simp) ?_
  apply pairTrees_cons_walk
  apply thn (hk.run pins _ σ _ _ I0 (h _ free))
  rintro u s1 ⟨x, H1, I1, rx, q1⟩
  apply thn (hv.run pins s1 σ H1 _ I1 q1)
  rintro uv s2 ⟨y, H2, I2, ry, hd, b, ks, n, ex, ey, hb, q2⟩
  subst ex ey
  cases (show u = Value.ref b from rx)
  apply pairTrees_nil_walk
  unfold storeAll
  rw [List.forIn_cons]
  obtain ⟨_, low, xs, rel, dd⟩ := dt_of I2.hok hd
  cases rel
  apply wpAny_bind
  apply wpAny_bind
  refine wpAny_dictSet_heap (knd := tupleKind (mixKind X.prog X.w)) (Nat.lt_of_le_of_lt (Nat.le_succ _) hu) (key_ofF I2.hok hb) dd ?_ (Nat.zero_le _)
  intro g dd' same
  apply wpAny_pure
  show wpAny _ _ (pure PUnit.unit) _ _ _
  apply wpAny_pure
  obtain ⟨ob, es, ep, ho, hc, hdat, hkeys, _, hnd⟩ := dd'
  have new : ObjOk X.prog X.w (upd H2 s.heap.objs.size (FD X.prog X.w s.heap.objs.size [(ks, b, n)])) g s.heap.objs.size (FD X.prog X.w s.heap.objs.size [(ks, b, n)]) :=
    fd_new ⟨by simp [sizeLine_eq], low, _, KN.put (xs := []) .nil ks b ry, ob, es, ep, ho, hc, hdat, hkeys, hnd⟩
  exact ⟨.ref s.heap.objs.size, _, d_write I2 (by rw [hd]; exact True.intro) same ⟨ob, ho⟩ new, rfl, q2⟩

/-! ### sum(d.values()) -/
theorem KN_vals {xs : TabA} {ys : List (List Key × Addr × Value)} (r : KN xs ys) : ∀ (i : Nat) (x : List Key × Addr × Value), ys[i]? = some x → ∃ t, x.2.2 = Value.int (((xs.map fun e => (e.2.2 : Int)).getD i 0)) t := by
  induction r with
  | nil =>
    intro i x h
    exact absurd h (by simp)
  | @cons p q ps qs h t ih =>
    intro i x hx
    cases i with
    | zero =>
      have : q = x := by simpa using hx
      subst this
      obtain ⟨tk, z⟩ := (show ∃ tk, q.2.2 = Value.int (p.2.2 : Int) tk from h.2.2)
      exact ⟨tk, by simpa using z⟩
    | succ i =>
      obtain ⟨tk, z⟩ := ih i x (by simpa using hx)
      exact ⟨tk, by simpa using z⟩
def tSumF (P : Program) (w : World) (td : TE) : TE := fun σ H Q => td σ H fun x H1 => ∃ (a : Addr) (xs : TabA), x = V.ref a ∧ H1 a = some (FD P w a xs) ∧ FKeys H1 xs ∧ Q (nV ((tabOf xs).map (·.2)).sum) H1
theorem sum_cast : ∀ l : List Nat, (l.map fun (n : Nat) => (n : Int)).sum = ((l.sum : Nat) : Int)
  | [] => rfl
  | a :: r => by
    rw [List.map_cons, List.sum_cons, List.sum_cons, sum_cast r]
    omega
section
variable {X : Cx} {o : Expr} {p pos apos mpos : Pos} {td : TE}
theorem pe_sumF (calm : X.calm = true) (hg : Gl X "sum") (hm : X.mg "sum" = none) (hd : PE X o td)
    (hb : attributeBase o "values" X.env (eval o X.env) = eval o X.env := by rfl) (hl : (apos.endLine == mpos.line) = true := by rfl)
    (hst : starEach [Expr.Call (.Attribute o "values" apos) [] [] mpos] X.env = [(false, eval (Expr.Call (.Attribute o "values" apos) [] [] mpos) X.env)] := by rfl) :
    PE X (.Call (.Name "sum" p) [.Call (.Attribute o "values" apos) [] [] mpos] [] pos) (tSumF X.prog X.w td) := by
  constructor
  intro pins s σ H Q I h
  apply wpAny_Call_Name_kw
  apply ld_blt I hg hm (u := .builtin "sum") boot_sum
  · rw [hst]
    apply PySem.callWith_builtin1
    apply wpAny_Call_method0_late hb hl
    apply thn (hd.run pins s σ H _ I h)
    rintro v s1 ⟨x, H1, I1, r1, a, xs, ex, ha, fk, q⟩
    subst ex
    cases (show v = Value.ref a from r1)
    obtain ⟨_, low, ys, rel, dd⟩ := fd_rd I1.hok (.inl ha) fk
    obtain ⟨ob, es, ep, ho, hc, hdat, hkeys, hfull, hnd⟩ := dd
    refine ⟨"dict", "dict.values", PySem.F.plainAttrs_dict, PySem.F.slot_dict_values, PySem.F.type_dict_values, ⟨ob, ho, hc.1⟩, ?_, ?_⟩
    · intro b e
      cases e
      exact ⟨ob, ho, hc.2.1⟩
    · apply Calls.callWith_builtin rfl
      apply PySem.evalArgs_none
      have raw : s1.heap.DictRaw a es ep := ⟨ob, ho, hc, hdat⟩
      refine call_meetsIn PySem.F.slot_dict_values ⟨ob, ho, hc.1⟩ PySem.F.entry_dict_values (PySem.F.args_dict_values_1 _) (meets_dict_values_raw a low) ⟨⟨es, ep, raw⟩, ?_⟩
      have hes : ∀ (i : Nat) (v : Value), (∃ hi : i < es.size, v = es[i].val) → ∃ t : Tok, v = Value.int ((xs.map fun e => (e.2.2 : Int)).getD i 0) t := by
        rintro i v ⟨hi, rfl⟩
        have hx : i < ys.length := by
          have := congrArg List.length hkeys
          rw [List.length_map, Array.length_toList] at this
          omega
        obtain ⟨t, z⟩ := KN_vals rel i ys[i] (List.getElem?_eq_getElem hx)
        refine ⟨t, ?_⟩
        have g : es.toList[i]? = some (entryOfKey (tupleKind (mixKind X.prog X.w)) ys[i]) := by
          rw [hkeys, List.getElem?_map, List.getElem?_eq_getElem hx]
          rfl
        rw [Array.getElem?_toList, Array.getElem?_eq_getElem hi] at g
        rw [Option.some.inj g, ← z]
        rfl
      have hlen : es.size = (xs.map fun e => (e.2.2 : Int)).length := by
        have e1 := congrArg List.length hkeys
        have e3 := Paired.length rel
        rw [List.length_map, Array.length_toList] at e1
        rw [List.length_map]
        omega
      have esum : (xs.map fun e => (e.2.2 : Int)).sum = ((((tabOf xs).map (·.2)).sum : Nat) : Int) := by
        rw [← sum_cast]
        unfold tabOf
        rw [List.map_map, List.map_map]
        rfl
      refine sum_src (PySem.KdlSrc.rawValues (r := s1.heap.objs.size) (d := a) (es := es) (ep := ep)) (I.ok.hd calm) ⟨⟨_, Heap.get?_push_size _ rfl, rfl, rfl⟩, raw.push _⟩ (fun i => (xs.map fun e => (e.2.2 : Int)).getD i 0) hes ?_
      intro g k t stay
      rw [hlen, preSum_at _ _ (Nat.le_refl _), List.take_length, esum]
      exact ⟨nV _, H1, I1.kept (t' := k) fun b u e => stay b u (Heap.get?_push_of_some _ e), ⟨t, rfl⟩, q⟩
end

/-! ### for t in d, locked -/
def Itkf (P : Program) (w : World) (d : Addr) (o : Obj) (xs : TabA) : It :=
  ⟨fun i H => (H d = some (.frz o (FD P w d xs)) ∧ FKeys H xs) ∧ i < xs.length, fun i H x H' => H' = H ∧ ∃ (k : List Nat) (q : Addr) (n : Nat), xs[i]? = some (k, q, n) ∧ x = .ref q ∧ FrT H q (nsV k), fun i H => (H d = some (.frz o (FD P w d xs)) ∧ FKeys H xs) ∧ xs.length ≤ i⟩
theorem walk_keysF {P : Program} {w : World} {d : Addr} {o : Obj} {xs : TabA} : Walk (Itkf P w d o xs) xs.length (fun H => H d = some (.frz o (FD P w d xs)) ∧ FKeys H xs)
    (fun i H x H' => H' = H ∧ ∃ (k : List Nat) (q : Addr) (n : Nat), xs[i]? = some (k, q, n) ∧ x = .ref q ∧ FrT H q (nsV k)) :=
  ⟨fun _ _ hi q => ⟨q, hi⟩, fun _ q => ⟨q, Nat.le_refl _⟩, fun _ _ _ _ _ _ y => y⟩
section
variable {X : Cx} {pins : List (Addr × Obj)} {σ : L2.St} {H : Hp} {s : Shared} {d : Addr} {o : Obj} {xs : TabA}
theorem frzF (I : Inv X pins σ H s) (h : H d = some (.frz o (FD X.prog X.w d xs))) :
    (d == sysModules) = false ∧ s.heap.get? d = some o ∧ o.ExactDict ∧ ∃ (es : Array DictEntry) (ep : Nat), o.data = .dict es ep ∧ es.size = xs.length ∧
      ∀ (i : Nat) (k : List Nat) (q : Addr) (n : Nat), xs[i]? = some (k, q, n) → ∃ en : DictEntry, es[i]? = some en ∧ en.key = .ref q := by
  obtain ⟨hd, z, _⟩ := (show ObjOk X.prog X.w H s.heap d (.frz o (FD X.prog X.w d xs)) from I.hok d _ h)
  obtain ⟨_, low, ys, pr, o', es, ep, ho, hx, hdt, he, _⟩ := (show FDok X.prog X.w s.heap d xs from z)
  rw [hd] at ho
  cases ho
  refine ⟨low, hd, hx, es, ep, hdt, ?_, fun i k q n e => ?_⟩
  · have l1 : es.size = ys.length := size_of_entries he
    have l2 : xs.length = ys.length := Paired.length pr
    omega
  · have gen : ∀ {l : TabA} {m : List (List Key × Addr × Value)} {i : Nat} {x : List Nat × Addr × Nat}, KN l m → l[i]? = some x → ∃ y, m[i]? = some y ∧ x.2.1 = y.2.1 := by
      intro l m i x r
      induction r generalizing i with
      | nil => intro h; exact absurd h (by simp)
      | @cons p q ps qs hq t ih =>
        intro h
        cases i with
        | zero =>
          have : p = x := by simpa using h
          subst this
          exact ⟨q, rfl, hq.2.1⟩
        | succ i => exact ih (by simpa using h)
    obtain ⟨y, hy, e1⟩ := gen pr e
    have g := entry_at he i
    rw [hy] at g
    exact ⟨_, g, by show Value.ref y.2.1 = .ref q; rw [← e1]⟩
end
section
variable {P : Program} {w : World} {K : PySem.W.Frag} {tg : Expr} {d : Addr} {o : Obj} {es : Array DictEntry} {ep : Nat} {xs : TabA}
theorem turn_keysF (it : Addr) (hod : o.data = .dict es ep) : Turn P w K tg (Itkf P w d o xs) [it] it (fun i h => h.IsKeyIter it d i xs.length ep) where
  mem := by simp
  obj := fun i h st b hb => by
    have e : b = it := by simpa using hb
    subst e
    obtain ⟨oi, e, c, dd⟩ := st
    exact ⟨oi, e, fun v z => by rw [dd] at z; cases z⟩
  keep := fun i h h' st k => st.at fun oi e => k it (by simp) oi e
  item := by
    intro X hP hw hK hc i pins s σ H E I hf st hg
    subst hP hw hK
    obtain ⟨⟨hd, fk⟩, hi⟩ := hg
    obtain ⟨f0, f1, f2, f3, f4, f5⟩ := hf it (by simp)
    obtain ⟨hs, hgd, hx, es', ep', hdt, hsz, ent⟩ := frzF I hd
    obtain ⟨rfl, rfl⟩ := dict_ep hod hdt
    obtain ⟨⟨k, q, n⟩, hkv⟩ : ∃ p, xs[i]? = some p := ⟨xs[i], List.getElem?_eq_getElem hi⟩
    obtain ⟨en, hen, hkey⟩ := ent i k q n hkv
    refine next_key_item st hgd hdt hsz hen fun h' st' sb => ?_
    have I1 : Inv X pins σ H { s with heap := h' } := I.turned (t' := s.toks) (fun b ob hb e => (sb.2 b hb).trans e) f0 f1 f3 f4 f5
    obtain ⟨oi, e, c, dd⟩ := id st'
    exact ⟨en.key, rfl, go_of (s := { s with heap := h' }) e c dd (by decide) ⟨.ref q, H, I1, hkey, ⟨rfl, k, q, n, hkv, rfl, fk _ (List.mem_of_getElem? hkv)⟩, st', fun b hb => (hf b hb).1⟩⟩
  done := by
    intro X hP hw hK hc i pins s σ H E I hf st hg
    subst hP hw hK
    obtain ⟨⟨hd, fk⟩, hi⟩ := hg
    obtain ⟨f0, f1, f2, f3, f4, f5⟩ := hf it (by simp)
    obtain ⟨hs, hgd, hx, es', ep', hdt, hsz, ent⟩ := frzF I hd
    obtain ⟨rfl, rfl⟩ := dict_ep hod hdt
    exact next_key_end (I.ok.hd hc) st hgd hdt hsz hi fun h' eb => ⟨rfl, I.turned (t' := s.toks) (fun b ob hb e => eb b ob hb e) f0 f1 f3 f4 f5⟩
  self := fun A i s Q E st h => by
    refine wpAny_pyIter_slot st.typeIs PySem.F.slot_dict_keyiterator_iter (wpAny_call_entry PySem.F.slot_dict_keyiterator_iter st.typeIs PySem.F.entry_dict_keyiterator_iter ?_ (PySem.F.args_dict_keyiterator_iter_1 _))
    show wpAny _ _ (ret (.ref it)) _ _ s
    exact wpAny_pure ⟨_, rfl, "dict_keyiterator", _, st.typeIs, PySem.F.slot_dict_keyiterator_next.lookup, h⟩
end
def iKeysF (P : Program) (w : World) (td : TE) : TI := fun σ H R => td σ H fun x H1 => ∃ d o xs, x = .ref d ∧ H1 d = some (.frz o (FD P w d xs)) ∧ R (Itkf P w d o xs) H1
theorem pi_keysF {X : Cx} {tg e : Expr} {td : TE} (he : PE X e td) : PI X tg e (iKeysF X.prog X.w td) := by
  refine ⟨fun pins s σ H R I h => ?_⟩
  refine thn (he.run pins s σ H _ I h) fun u s1 ⟨x, H1, I1, rx, d, o, xs, ex, hd, q⟩ => ?_
  subst ex
  obtain rfl : u = Value.ref d := rx
  obtain ⟨hs, hgd, hx, es, ep, hdt, hsz, ent⟩ := frzF I1 hd
  refine iter_keys hs hgd hx hdt (pi_one (tk := s1.toks) I1 _ (turn_keysF _ hdt) ⟨_, Heap.get?_push_size _ rfl, rfl, ?_⟩ q)
  rw [hsz] <;> rfl

/-! ### t.index(n), t a tuple held as it is -/
/-- a method of a tuple held as it is -/
def tBMF (r : V → List V → Hp → VK → Prop) (to : TE) (t : TA) : TE := fun σ H Q => to σ H fun x H1 => (∃ a xs, x = .ref a ∧ FrT H1 a xs) ∧ t σ H1 fun xs H2 => r x xs H2 Q
section
variable {X : Cx} {name : Str} {id : String} {o e : Expr} {es : List Expr} {apos cpos : Pos} {to : TE} {t : TA} {r : V → List V → Hp → VK → Prop}
theorem pe_bmF (pa : PlainAttrs "tuple") (slot : Slot "tuple" name id) (hty : typeOf (.builtin id) = pure (.type "method_descriptor")) (hm : MtR X id r) (ho : PE X o to) (ha : PA X (e :: es) t)
    (hbase : attributeBase o name X.env (eval o X.env) = eval o X.env := by rfl)
    (hfew : ((backTo cpos (starEach (e :: es) X.env)).all (fun x => !x.1) && (backToKw cpos (keywordEach [] X.env)).all (fun x => x.1.isSome)
      && decide ((e :: es).length + ([] : List Keyword).length + (if ([] : List Keyword).isEmpty then 0 else 1) < 30)) = true := by rfl)
    (hline : (apos.endLine == cpos.line) = true := by rfl) (hs : starEach (e :: es) X.env = (false, eval e X.env) :: starEach es X.env := by rfl) (hplain : (backTo cpos (starEach es X.env)).any (·.1) = false := by rfl) :
    PE X (.Call (.Attribute o name apos) (e :: es) [] cpos) (tBMF r to t) := by
  refine ⟨fun pins s σ H Q I h => ?_⟩
  refine wpAny_Call_method_late hbase hfew hline rfl (thn (ho.run pins s σ H _ I h) fun v s1 ⟨x, H1, I1, r1, ⟨a, xs, ex, ob, hn, hq⟩, q1⟩ => ?_)
  subst ex
  cases r1
  obtain ⟨hg, _, its, rv, o', ho', hc, n, hd⟩ := (show ObjOk X.prog X.w H1 s1.heap a (.frz ob (.tup xs)) from I1.hok a _ hq)
  rw [hg] at ho'
  cases ho'
  refine ⟨"tuple", id, pa, slot, hty, ⟨ob, hg, hc⟩, fun b e => by cases e; exact ⟨ob, hg, hn⟩, ?_⟩
  have hA := ha.run cpos pins s1 σ H1 _ I1 q1
  rw [hs] at hA ⊢
  refine Calls.callWith_builtin (by show (false || (backTo cpos (starEach es X.env)).any (·.1)) = false; rw [hplain] <;> rfl) (Calls.evalArgs_plain ?_)
  exact thn hA fun us s2 ⟨vs, H2, I2, r2, q2⟩ => hm pins s2 σ H2 (.ref a) vs _ us Q I2 rfl r2 q2
end
end Dm
/-! ## DmDeals -/
/-! The counting of deals: with_one_dealt, ways_by_room_left, count_deals, count_by_place. -/
namespace Dm
open PySem PySem.Spec PyProof.Rows L2

/-! ### heaps -/
theorem same_new {H : Hp} {p : Addr} {o : HO} (h : H p = none) : Same H (upd H p o) := fun b u e => by rw [upd_ne (ne_of_none e h)]; exact e
theorem same_free {H H' : Hp} (s : Same H H') {p : Addr} (h : H' p = none) : H p = none := s.free h
/-- all that was tracked but at these places is as it was -/
def SameBut (S : List Addr) (H H' : Hp) : Prop := ∀ b o, H b = some o → b ∉ S → H' b = some o
theorem SameBut.refl (S : List Addr) (H : Hp) : SameBut S H H := fun _ _ h _ => h
theorem SameBut.trans {S : List Addr} {H H1 H2 : Hp} (a : SameBut S H H1) (b : SameBut S H1 H2) : SameBut S H H2 := fun c o h n => b c o (a c o h n) n
theorem SameBut.mono {S S' : List Addr} {H H' : Hp} (a : SameBut S H H') (h : ∀ x, x ∈ S → x ∈ S') : SameBut S' H H' := fun c o e n => a c o e fun q => n (h c q)
theorem but_same {H H' : Hp} (a : Same H H') (S : List Addr) : SameBut S H H' := fun c o h _ => a c o h
theorem but_upd {H : Hp} {a : Addr} {o : HO} : SameBut [a] H (upd H a o) := fun b u e n => by
  rw [upd_ne]
  · exact e
  · intro z
    exact n (by rw [z]; exact List.mem_cons_self)
theorem take_snoc {α : Type} {l : List α} {i : Nat} {x : α} (h : l[i]? = some x) : l.take (i + 1) = l.take i ++ [x] := by
  rw [List.take_succ, h]
  rfl

/-! ### the table in the heap -/
def TabAt (P : Program) (w : World) (H : Hp) (d : Addr) (tab : Tab) : Prop := ∃ xs : TabA, tabOf xs = tab ∧ H d = some (FD P w d xs) ∧ FKeys H xs
theorem FKeys.keep {H H' : Hp} {xs : TabA} (h : FKeys H xs) (s : ∀ b o u, H b = some (.frz o (.tup u)) → H' b = some (.frz o (.tup u))) : FKeys H' xs := fun e he =>
  let ⟨o, n, q⟩ := h e he; ⟨o, n, s _ _ _ q⟩
theorem TabAt.same {P : Program} {w : World} {H H' : Hp} {d : Addr} {tab : Tab} (h : TabAt P w H d tab) (s : Same H H') : TabAt P w H' d tab :=
  let ⟨xs, e, q, k⟩ := h; ⟨xs, e, s _ _ q, k.keep fun b o u z => s _ _ z⟩
/-- frozen tuples stay where something else is written -/
theorem fr_upd {H : Hp} {a : Addr} {o' : HO} (h : ∀ o u, H a ≠ some (.frz o (.tup u))) : ∀ b o u, H b = some (.frz o (.tup u)) → upd H a o' b = some (.frz o (.tup u)) := fun b o u e => by
  rw [upd_ne]
  · exact e
  · intro z
    rw [z] at e
    exact h o u e
theorem fr_upd_of {H : Hp} {a : Addr} {o o' : HO} (h : H a = some o) (n : ∀ x u, o ≠ .frz x (.tup u)) : ∀ b x u, H b = some (.frz x (.tup u)) → upd H a o' b = some (.frz x (.tup u)) :=
  fr_upd fun x u e => by
    rw [h] at e
    exact n x u (Option.some.inj e)
theorem FrT.ne {H : Hp} {a q : Addr} {o : HO} {ys : List V} (h : FrT H q ys) (ha : H a = some o) (n : ∀ x u, o ≠ .frz x (.tup u)) : q ≠ a := fun z => by
  obtain ⟨x, _, e⟩ := h
  rw [z, ha] at e
  exact n x ys (Option.some.inj e)
theorem FrT.upd {H : Hp} {a q : Addr} {o o' : HO} {ys : List V} (h : FrT H q ys) (ha : H a = some o) (n : ∀ x u, o ≠ .frz x (.tup u)) : FrT (upd H a o') q ys := by
  have ne := h.ne ha n
  obtain ⟨x, d, e⟩ := h
  exact ⟨x, d, by rw [upd_ne ne]; exact e⟩

/-! ### the room with one place less, as the program makes it -/
theorem cut_head (xs : List V) (i : Nat) (h : i < xs.length) : cutV xs none (some (i : Int)) = xs.take i := by
  unfold cutV
  rw [HT.sIx_none, HT.sIx_nat, Nat.min_eq_left (Nat.le_of_lt h)]
  simp
theorem cut_tail (xs : List V) (i : Nat) (h : i < xs.length) : cutV xs (some ((i : Int) + 1)) none = xs.drop (i + 1) := by
  unfold cutV
  have e : (i : Int) + 1 = ((i + 1 : Nat) : Int) := by omega
  rw [e, HT.sIx_none, HT.sIx_nat, Nat.min_eq_left h, List.take_of_length_le]
  rw [List.length_drop]
  exact Nat.le_refl _
theorem set_cut {α : Type} : ∀ (l : List α) (i : Nat) (x : α), i < l.length → l.take i ++ [x] ++ l.drop (i + 1) = l.set i x
  | [], i, _, h => absurd h (Nat.not_lt_zero i)
  | a :: r, 0, x, _ => by simp
  | a :: r, i + 1, x, h => by
    have ih := set_cut r i x (Nat.lt_of_succ_lt_succ h)
    simp only [List.take_succ_cons, List.drop_succ_cons, List.set_cons_succ, List.cons_append]
    rw [ih]
/-- t[:i] + (x,) + t[i + 1:] -/
theorem left_reads {K : PySem.W.Frag} {σ : L2.St} {H : Hp} {r : Addr} {xs : List V} {i : Nat} {x : V} {ta tx : TE} {to1 to2 : TO} {Q : VK} (hr : FrT H r xs) (hi : i < xs.length) (hz : xs.length ≤ 1000)
    (h0 : ∀ (H' : Hp) (R : VK), R (.ref r) H' → ta σ H' R) (h1 : ∀ (H' : Hp) (R : Option Int → Hp → Prop), R (some (i : Int)) H' → to1 σ H' R) (h2 : ∀ (H' : Hp) (R : Option Int → Hp → Prop), R (some ((i : Int) + 1)) H' → to2 σ H' R)
    (h3 : ∀ (H' : Hp) (R : VK), Same H H' → R x H' → tx σ H' R)
    (k : ∀ (H' : Hp) (q : Addr), Same H H' → FrT H' q (xs.set i x) → Q (.ref q) H') :
    tOp (rCatF K) (tOp (rCatF K) (tSl (rSlA K) ta tNoPart to1) (tTupF (tCons tx tNil))) (tSl (rSlA K) ta to2 tNoPart) σ H Q := by
  have big : (2000 : Nat) ≤ sizeLine := by decide
  have sq : ∀ H' : Hp, Same H H' → SqT K H' r xs := fun H' s => (hr.same fun b o u e => s _ _ e).sq
  refine h0 H _ (h1 H _ ⟨r, xs, rfl, sq _ (Same.refl _), ?_, ?_⟩)
  · intro w
    rw [HT.sIx_nat] at w
    omega
  intro _ p hp
  have s1 : Same H (upd H p (.tup (cutV xs none (some (i : Int))))) := same_new hp
  refine h3 _ _ s1 ⟨by show 1 ≤ sizeLine; omega, fun q o hq hn => ?_⟩
  have s2 := s1.trans (same_new (o := .frz o (.tup [x])) hq)
  have fq : FrT (upd (upd H p (.tup (cutV xs none (some (i : Int))))) q (.frz o (.tup [x]))) q [x] := ⟨o, hn, upd_same⟩
  have e1 : cutV xs none (some (i : Int)) = xs.take i := cut_head xs i hi
  have e2 : cutV xs (some ((i : Int) + 1)) none = xs.drop (i + 1) := cut_tail xs i hi
  have fin : ∀ (H2 : Hp) (m : Addr), Same H H2 → FrT H2 m (xs.take i ++ [x]) →
      tSl (rSlA K) ta to2 tNoPart σ H2 (fun y H3 => rCatF K (.ref m) y H3 Q) := by
    intro H2 m s hm
    refine h0 H2 _ (h2 H2 _ ⟨r, xs, rfl, sq _ s, ?_, ?_⟩)
    · intro w
      have e : (i : Int) + 1 = ((i + 1 : Nat) : Int) := by omega
      rw [e, HT.sIx_nat] at w
      omega
    intro _ p2 hp2
    rw [e2]
    have s3 := s.trans (same_new (o := .tup (xs.drop (i + 1))) hp2)
    have hm3 : FrT (upd H2 p2 (.tup (xs.drop (i + 1)))) m (xs.take i ++ [x]) := hm.same fun b o u e => (same_new hp2) _ _ e
    refine ⟨m, p2, xs.take i ++ [x], xs.drop (i + 1), rfl, rfl, hm3.sq, SqT.of upd_same, ?_, ?_, ?_, ?_⟩
    · rw [List.length_append, List.length_take, List.length_drop]
      simp only [List.length_cons, List.length_nil]
      omega
    · intro w
      exact absurd w (by simp)
    · intro _ w
      refine k _ m s3 ?_
      rw [← set_cut xs i x hi, w, List.append_nil]
      exact hm3.same fun b o u e => by rw [w] at e; exact e
    · intro _ _ p3 o3 hp3 hn3
      refine k _ p3 (s3.trans (same_new hp3)) ⟨o3, hn3, ?_⟩
      rw [upd_same, set_cut xs i x hi]
  refine ⟨p, q, cutV xs none (some (i : Int)), [x], rfl, rfl, SqT.of ((same_new hq) _ _ upd_same), fq.sq, ?_, ?_, ?_, ?_⟩
  · have := cutV_length xs none (some (i : Int))
    have z : (cutV xs none (some (i : Int))).length + 1 ≤ sizeLine := by omega
    exact z
  · intro w
    refine fin _ q s2 ?_
    rw [e1] at w
    rw [w]
    exact fq
  · intro _ w
    exact absurd w (by simp)
  · intro _ _ m o2 hm hn2
    refine fin _ m (s2.trans (same_new hm)) ⟨o2, hn2, ?_⟩
    rw [upd_same, e1]

/-! ### with_one_dealt -/
/-- every part of a step is a good table -/
structure Fit (caps : List Nat) (n : Nat) (tab : Tab) (places : List Nat) : Prop where
  good : Good caps (n + 1) tab
  once : (keys tab).Nodup
  small : size caps ≤ 4096
  short : caps.length ≤ 1000
  there : ∀ k ∈ places, k < caps.length
def spOne (P : Program) (w : World) (K : PySem.W.Frag) : Sp := fun vs H Q _ => ∃ (d l : Addr) (tab : Tab) (places caps : List Nat) (n : Nat), vs = [.ref d, .ref l] ∧ TabAt P w H d tab ∧ SqL K H l (nsV places) ∧ Fit caps n tab places ∧
  ∀ (H' : Hp) (p : Addr), Same H H' → TabAt P w H' p (dealOne tab places) → Q (.ref p) H'
theorem getT_mem {room : List Nat} {cnt : Nat} : ∀ t : Tab, (keys t).Nodup → (room, cnt) ∈ t → getT t room = some cnt := by
  have gen : ∀ t : Tab, (keys t).Nodup → (room, cnt) ∈ t → t.find? (fun kv => decide (kv.1 = room)) = some (room, cnt) := by
    intro t
    induction t with
    | nil => intro _ h; exact absurd h (by simp)
    | cons b t ih =>
      intro hn hm
      have hn' : b.1 ∉ keys t ∧ (keys t).Nodup := List.nodup_cons.mp hn
      rcases List.mem_cons.mp hm with z | z
      · subst z
        simp
      · rw [List.find?_cons_of_neg]
        · exact ih hn'.2 z
        · intro w
          have w' : b.1 = room := by simpa using w
          exact hn'.1 (List.mem_map.mpr ⟨_, z, w'.symm⟩)
  intro t hn hm
  unfold getT
  rw [gen t hn hm]
  rfl
section
variable {P : Program} {w : World} {K : PySem.W.Frag} {mg : Str → Option Value} {base : Heap}
theorem ok_one {f : Addr} {fd : FuncData} (F : Fun K "with_one_dealt" "with_one_dealt" s_f_with_one_dealt f fd) : FnOk P w K mg base CX0 1 f fd ["ways", "places"] (spOne P w K) := by
  refine F.ok sc_f_with_one_dealt (fun vs H Q E h => ?_) (fun cdv A outer s H vs Q E hr h => ?_)
  · obtain ⟨d, l, tab, places, caps, n, rfl, _⟩ := h
    rfl
  · obtain ⟨d, l, tab, places, caps, n, rfl, ⟨es, rfl, hd, fk⟩, hl, fit, k⟩ := h
    have hu := hu_of hr
    refine ⟨_, pss_cons (ps_set (i := 2) sc_f_with_one_dealt.nd rfl (Or.inl rfl) pe_dnewF)
      (pss_cons (ps_lock (ps_for PassesOwn.never rfl (pi_keysF (pv 0)) (pg_name (i := 3) sc_f_with_one_dealt.nd rfl (Or.inl rfl))
        (pss_one (ps_for PassesOwn.never rfl (pi_list (pv 1)) (pg_name (i := 4) sc_f_with_one_dealt.nd rfl (Or.inl rfl))
          (pss_one (ps_if (pt_cmpR op_gt (pe_ix ix_tup (pv 3) (pv 4) (fun _ _ => rfl)) pe_int (nomark _))
            (pss_cons (ps_set (i := 5) sc_f_with_one_dealt.nd rfl (Or.inl rfl)
              (pe_op op_catF (pe_op op_catF (pe_slice sl_tupA (pv 3) po_none (po_some (pv 4))) (pe_tupF (pa_cons (pe_op op_sub (pe_ix ix_tup (pv 3) (pv 4) (fun _ _ => rfl)) pe_int) pa_nil)))
                (pe_slice sl_tupA (pv 3) (po_some (pe_op op_add (pv 4) pe_int)) po_none)))
            (pss_one (ps_dputF hu (pv 2) (pv 5) (pe_op op_add (pe_dget2F hu (pv 2) (pv 5) pe_int ⟨rfl, rfl, rfl, rfl⟩) (pe_dgetF hu (pv 0) (pv 3) (fun _ _ => rfl))) rfl)))
            pss_nil))))))
      (pss_one (ps_ret (pv 2)))), ?_⟩
    -- after = {}: at a
    intro a ha
    have sa := same_new (o := FD P w a []) ha
    have nad : d ≠ a := ne_of_none hd ha
    have hda := sa _ _ hd
    have nofrz : ∀ xs x u, FD P w d xs ≠ .frz x (.tup u) := fun xs x u z => nomatch z
    -- the walk over ways: locked
    refine ⟨d, FD P w d es, hda, True.intro, fun od => ?_⟩
    have hz : es.length = (tabOf es).length := (tabOf_len es).symm
    have fk0 : FKeys (upd (upd H a (FD P w a [])) d (.frz od (FD P w d es))) es := (fk.keep fun b o u e => sa _ _ e).keep (fr_upd_of hda (nofrz es))
    refine ⟨_, rfl, d, od, es, rfl, upd_same, ?_⟩
    refine for_it (walk_keysF (xs := es) (d := d) (o := od))
      (fun i σ H' => ∃ v3 v4 v5 : Option V, σ = [some (.ref d), some (.ref l), some (.ref a), v3, v4, v5] ∧ SameBut [d] H H' ∧ H' d = some (.frz od (FD P w d es)) ∧ FKeys H' es ∧
        TabAt P w H' a (((tabOf es).take i).foldl (dealRoom places) []))
      ⟨none, none, none, rfl, (but_same sa [d]).trans but_upd, upd_same, fk0, [], rfl, by rw [upd_ne nad.symm]; exact upd_same, fun e he => absurd he (by simp)⟩ (fun i σ H' _ ⟨_, _, _, _, _, q, q2, _⟩ => ⟨q, q2⟩) ?_ ?_
    · -- a room of the table
      rintro i x σ H1 H2 hi ⟨v3, v4, v5, rfl, sb, hd1, fk1, ta1⟩ ⟨rfl, room, r, cnt, he0, rfl, fr1⟩
      have he : (tabOf es)[i]? = some (room, cnt) := by
        unfold tabOf
        rw [List.getElem?_map, he0]
        rfl
      have mem : room ∈ keys (tabOf es) := List.mem_map.mpr ⟨(room, cnt), List.mem_of_getElem? he, rfl⟩
      have below := (fit.good room mem).1
      have lst : SqL K H2 l (nsV places) := by
        rcases hl with (h | ⟨o, h⟩) | h
        · exact .inl (.inl (sb _ _ h (by simp only [List.mem_singleton]; exact ne_of h hd (fun z => nomatch z))))
        · refine .inl (.inr ⟨o, sb _ _ h ?_⟩)
          simp only [List.mem_singleton]
          exact ne_of h hd (fun z => nomatch z)
        · exact .inr h
      have gone : ((tabOf es).take (i + 1)).foldl (dealRoom places) [] = dealRoom places (((tabOf es).take i).foldl (dealRoom places) []) (room, cnt) := by
        rw [take_snoc he, List.foldl_append]
        rfl
      obtain ⟨as0, eas0, ha1, fka1⟩ := ta1
      -- for place in places
      refine ⟨_, rfl, l, rfl, ⟨_, lst⟩, ?_⟩
      refine for_it (walk_list (K := K) (a := l) (xs := nsV places))
        (fun j σ H' => ∃ v4 v5 : Option V, σ = [some (.ref d), some (.ref l), some (.ref a), some (.ref r), v4, v5] ∧ SameBut [a] H2 H' ∧
          TabAt P w H' a ((places.take j).foldl (dealPlace room cnt) (((tabOf es).take i).foldl (dealRoom places) [])))
        ⟨v4, v5, rfl, SameBut.refl _ _, as0, eas0, ha1, fka1⟩ ?_ ?_ ?_
      · rintro j σ H' _ ⟨_, _, _, sb2, _⟩
        rcases lst with (h | ⟨o, h⟩) | h
        · exact .inl (.inl (sb2 _ _ h (by simp only [List.mem_singleton]; exact ne_of h ha1 (fun z => nomatch z))))
        · refine .inl (.inr ⟨o, sb2 _ _ h ?_⟩)
          simp only [List.mem_singleton]
          exact ne_of h ha1 (fun z => nomatch z)
        · exact .inr h
      · -- a place
        rintro j x σ H3 H4 hj ⟨u4, u5, rfl, sb2, as3, eas3, ha3, fka3⟩ ⟨rfl, hx⟩
        obtain ⟨pl, hpl, rfl⟩ := nsV_get hx
        have lt : pl < room.length := by
          rw [below.1]
          exact fit.there pl (List.mem_of_getElem? hpl)
        have nofa : ∀ xs x u, FD P w a xs ≠ .frz x (.tup u) := fun xs x u z => nomatch z
        have fr3 : FrT H4 r (nsV room) := by
          have ne := fr1.ne ha1 (nofa _)
          obtain ⟨o, hn, q⟩ := fr1
          exact ⟨o, hn, sb2 _ _ q (by simp only [List.mem_singleton]; exact ne)⟩
        have hd3 : H4 d = some (.frz od (FD P w d es)) := sb2 _ _ hd1 (by simp only [List.mem_singleton]; exact nad)
        have fk3 : FKeys H4 es := fun e he => by
          have f1 := fk1 e he
          have ne := f1.ne ha1 (nofa _)
          obtain ⟨o, hn, q⟩ := f1
          exact ⟨o, hn, sb2 _ _ q (by simp only [List.mem_singleton]; exact ne)⟩
        have next : (places.take (j + 1)).foldl (dealPlace room cnt) (((tabOf es).take i).foldl (dealRoom places) []) = dealPlace room cnt ((places.take j).foldl (dealPlace room cnt) (((tabOf es).take i).foldl (dealRoom places) [])) pl := by
          rw [take_snoc hpl, List.foldl_append]
          rfl
        -- the table so far
        generalize hT : (places.take j).foldl (dealPlace room cnt) (((tabOf es).take i).foldl (dealRoom places) []) = T at eas3 next
        have goodT : Good caps n T := by
          rw [← hT]
          refine good_room (e := (room, cnt)) (fit.good room mem) (places.take j) ?_
          exact good_one' places ((tabOf es).take i) (fun k hk => fit.good k (by
            obtain ⟨z, hz, e⟩ := List.mem_map.mp hk
            exact List.mem_map.mpr ⟨z, List.mem_of_mem_take hz, e⟩)) [] fun _ hk => absurd hk (by simp [keys])
        have onceT : (keys T).Nodup := by
          rw [← hT]
          exact dealRoom_keys (e := (room, cnt)) (places.take j) (dealOne_keys' places ((tabOf es).take i) [] List.nodup_nil)
        have shortT : T.length ≤ 4096 := Nat.le_trans (tab_short onceT goodT) fit.small
        refine ⟨_, rfl, _, rfl, r, nsV room, _, _, rfl, rfl, fr3.sq, atI_nV lt, _, _, rfl, rfl, _, rfl, ?_⟩
        refine ite2 (fun c => ?_) (fun c => ?_)
        · -- room[place] > 0
          have pos : 0 < room.getD pl 0 := by
            have := of_decide_eq_true c
            omega
          refine left_reads (K := K) (r := r) (xs := nsV room) (i := pl) (x := nV (room.getD pl 0 - 1)) fr3 (by rw [nsV_len]; exact lt) (by rw [nsV_len, below.1]; exact fit.short)
            (fun H' R q => ⟨_, rfl, q⟩) (fun H' R q => ⟨_, rfl, _, rfl, q⟩) (fun H' R q => ⟨_, rfl, _, _, rfl, rfl, _, rfl, q⟩)
            (fun H' R s q => ⟨_, rfl, _, rfl, r, nsV room, _, _, rfl, rfl, (fr3.same fun b o u e => s _ _ e).sq, atI_nV lt, _, _, rfl, rfl, by
              have e : ((room.getD pl 0 : Nat) : Int) - 1 = ((room.getD pl 0 - 1 : Nat) : Int) := by omega
              show R (.int (((room.getD pl 0 : Nat) : Int) - 1)) H'
              rw [e]
              exact q⟩) ?_
          intro H5 q s5 hq
          have hq' : FrT H5 q (nsV (room.set pl (room.getD pl 0 - 1))) := by
            have e : nsV (room.set pl (room.getD pl 0 - 1)) = (nsV room).set pl (nV (room.getD pl 0 - 1)) := by
              unfold nsV
              rw [List.map_set]
            rw [e]
            exact hq
          have ha5 : H5 a = some (FD P w a as3) := s5 _ _ ha3
          have fka5 : FKeys H5 as3 := fka3.keep fun b o u e => s5 _ _ e
          have hd5 : H5 d = some (.frz od (FD P w d es)) := s5 _ _ hd3
          have fk5 : FKeys H5 es := fk3.keep fun b o u e => s5 _ _ e
          have fr5 : FrT H5 r (nsV room) := fr3.same fun b o u e => s5 _ _ e
          have got : getT (tabOf es) room = some cnt := getT_mem _ fit.once (List.mem_of_getElem? he)
          have la : as3.length < sizeLine := by
            have : as3.length = T.length := by rw [← eas3, tabOf_len]
            exact Nat.lt_of_le_of_lt (by omega : as3.length ≤ 4096) (by decide)
          refine ⟨_, rfl, a, as3, rfl, .inl ha5, _, rfl, q, room.set pl (room.getD pl 0 - 1), 0, rfl, rfl, .inl ha5, fka5, hq', _, rfl, _, rfl, d, r, es, room, cnt, rfl, rfl, .inr ⟨od, hd5⟩, fk5, fr5, got, ?_⟩
          rw [eas3]
          refine ⟨(((getT T (room.set pl (room.getD pl 0 - 1))).getD 0 : Nat) : Int), (cnt : Int), rfl, rfl, _, rfl, _, rfl, a, q, as3, room.set pl (room.getD pl 0 - 1), (getT T (room.set pl (room.getD pl 0 - 1))).getD 0 + cnt, ?_, rfl, rfl, ha5, fka5, hq', la, ?_⟩
          · unfold nV
            congr 1
          · refine ⟨_, _, rfl, (sb2.trans (but_same s5 [a])).trans but_upd, putA as3 (room.set pl (room.getD pl 0 - 1)) q ((getT T (room.set pl (room.getD pl 0 - 1))).getD 0 + cnt), ?_, upd_same, ?_⟩
            · rw [tabOf_put, eas3, next]
              unfold dealPlace
              rw [if_pos pos]
            · intro e he
              rcases putA_mem he with ⟨e', he', q1, q2⟩ | ⟨q1, q2⟩
              · have := (fka5 e' he').upd (o' := FD P w a (putA as3 (room.set pl (room.getD pl 0 - 1)) q ((getT T (room.set pl (room.getD pl 0 - 1))).getD 0 + cnt))) ha5 (nofa _)
                rw [q1, q2] at this
                exact this
              · rw [q1, q2]
                exact hq'.upd ha5 (nofa _)
        · have zero : ¬ 0 < room.getD pl 0 := fun z => c (decide_eq_true (by omega))
          refine ⟨_, _, rfl, sb2, as3, ?_, ha3, fka3⟩
          rw [next, eas3]
          unfold dealPlace
          rw [if_neg zero]
      · rintro σ H3 ⟨u4, u5, rfl, sb2, as3, eas3, ha3, fka3⟩
        rw [nsV_len, List.take_length] at eas3
        have nofa : ∀ xs x u, FD P w a xs ≠ .frz x (.tup u) := fun xs x u z => nomatch z
        refine ⟨_, _, _, rfl, fun b o e n => sb2 b o (sb b o e n) ?_, sb2 _ _ hd1 (by simp only [List.mem_singleton]; exact nad), fun e he => ?_, as3, by rw [gone]; exact eas3, ha3, fka3⟩
        · simp only [List.mem_singleton]
          exact ne_of_none e ha
        · have f1 := fk1 e he
          have ne := f1.ne ha1 (nofa _)
          obtain ⟨o, hn, q⟩ := f1
          exact ⟨o, hn, sb2 _ _ q (by simp only [List.mem_singleton]; exact ne)⟩
    · rintro σ H1 ⟨v3, v4, v5, rfl, sb, hd1, fk1, as1, eas1, ha1, fka1⟩
      rw [hz, List.take_length] at eas1
      refine ⟨hd1, _, rfl, ?_⟩
      refine k _ a (fun b o e => ?_) ⟨as1, eas1, by rw [upd_ne nad.symm]; exact ha1, fka1.keep (fr_upd_of hd1 fun x u z => nomatch z)⟩
      by_cases z : b = d
      · subst z
        rw [upd_same, ← hd, e]
      · rw [upd_ne z]
        exact sb b o e (by simp only [List.mem_singleton]; exact z)

/-! ### ways_by_room_left, count_deals, count_by_place -/
structure FitAll (choices : List (List Nat)) (room : List Nat) (n : Nat) : Prop where
  sum : room.sum = choices.length + n
  small : size room ≤ 4096
  short : room.length ≤ 1000
  there : ∀ o ∈ choices, ∀ k ∈ o, k < room.length
/-- the lists of choices, each at its place -/
def ChoicesAt (H : Hp) (vs : List V) (choices : List (List Nat)) : Prop := Paired (fun v o => ∃ p, v = V.ref p ∧ H p = some (.lst (nsV o))) vs choices
theorem ChoicesAt.same {H H' : Hp} {vs : List V} {choices : List (List Nat)} (h : ChoicesAt H vs choices) (s : Same H H') : ChoicesAt H' vs choices :=
  Paired.mapP h fun _ _ ⟨p, e, q⟩ => ⟨p, e, s _ _ q⟩
theorem paired_get {A B : Type} {F : A → B → Prop} : ∀ {l : List A} {m : List B} {i : Nat} {x : A}, Paired F l m → l[i]? = some x → ∃ y, m[i]? = some y ∧ F x y
  | _, _, _, _, .nil, h => absurd h (by simp)
  | _, _, 0, _, .cons r _, h => by
    cases Option.some.inj h
    exact ⟨_, rfl, r⟩
  | _, _, i + 1, _, .cons _ t, h => paired_get (i := i) t h
def spWays (P : Program) (w : World) : Sp := fun vs H Q _ => ∃ (c r : Addr) (cs : List V) (choices : List (List Nat)) (room : List Nat) (n : Nat), vs = [.ref c, .ref r] ∧ H c = some (.lst cs) ∧ ChoicesAt H cs choices ∧ H r = some (.lst (nsV room)) ∧ FitAll choices room n ∧
  ∀ (H' : Hp) (d : Addr), Same H H' → TabAt P w H' d (dealAll choices room) → Q (.ref d) H'
def spCount (K : PySem.W.Frag) : Sp := fun vs H Q _ => ∃ (c r : Addr) (cs : List V) (choices : List (List Nat)) (room : List Nat), vs = [.ref c, .ref r] ∧ H c = some (.lst cs) ∧ ChoicesAt H cs choices ∧ H r = some (.lst (nsV room)) ∧ FitAll choices room 0 ∧
  ∀ H' : Hp, Same H H' → Q (nV (count choices room)) H'
def spByPlace (K : PySem.W.Frag) : Sp := fun vs H Q _ => ∃ (c l r : Addr) (cs : List V) (others : List (List Nat)) (places room : List Nat), vs = [.ref c, .ref l, .ref r] ∧ H c = some (.lst cs) ∧ ChoicesAt H cs others ∧ H l = some (.lst (nsV places)) ∧ H r = some (.lst (nsV room)) ∧ FitAll others room 1 ∧
  ∀ (H' : Hp) (p : Addr), Same H H' → H p = none → H' p = some (.lst (nsV (byPlace others places room))) → Q (.ref p) H'
structure TxtDeals (mg : Str → Option Value) : Prop where
  tuple : mg "tuple" = none
  sum : mg "sum" = none
  len : mg "len" = none
/-- a def of the module, its promise -/
def HasF (P : Program) (w : World) (K : PySem.W.Frag) (mg : Str → Option Value) (base : Heap) (name : Str) (k : Nat) (ps : List Str) (sp : Sp) : Prop :=
  ∃ (f : Addr) (fd : FuncData), mg name = some (.ref f) ∧ PySem.W.keepIn K (.ref f) = true ∧ FnOk P w K mg base CX0 k f fd ps sp ∧ Binds K fd ps []
theorem sum_nV (l : List Nat) : (l.map fun (n : Nat) => (n : Int)).sum = ((l.sum : Nat) : Int) := by
  induction l with
  | nil => rfl
  | cons a r ih =>
    rw [List.map_cons, List.sum_cons, List.sum_cons, ih]
    omega
theorem in_nsV (k : Nat) : ∀ l : List Nat, inV (nV k) (nsV l) = l.contains k
  | [] => rfl
  | a :: r => by
    show (eqV (nV a) (nV k) || inV (nV k) (nsV r)) = _
    rw [in_nsV k r, List.contains_cons]
    congr 1
    show ((a : Int) == (k : Int)) = (k == a)
    by_cases w : k = a
    · subst w
      simp
    · rw [beq_eq_false_iff_ne.mpr w]
      exact beq_eq_false_iff_ne.mpr (by omega)
theorem flat_nsV (l : List Nat) : (nsV l).all flatV = true := by
  unfold nsV
  rw [List.all_map]
  exact List.all_eq_true.mpr fun _ _ => rfl
theorem eqV_nV (a b : Nat) : eqV (nV a) (nV b) = decide (a = b) := by
  show ((a : Int) == (b : Int)) = _
  by_cases w : a = b
  · subst w
    simp
  · rw [decide_eq_false w]
    exact beq_eq_false_iff_ne.mpr (by omega)
theorem ok_ways {f : Addr} {fd : FuncData} (F : Fun K "ways_by_room_left" "ways_by_room_left" s_f_ways_by_room_left f fd) (T : TxtDeals mg) (C : HasF P w K mg base "with_one_dealt" 1 ["ways", "places"] (spOne P w K)) :
    FnOk P w K mg base CX0 2 f fd ["choices", "room"] (spWays P w) := by
  obtain ⟨f1, fd1, m1, kp1, G1, b1⟩ := C
  refine F.ok sc_f_ways_by_room_left (fun vs H Q E h => ?_) (fun cdv A outer s H vs Q E hr h => ?_)
  · obtain ⟨c, r, cs, choices, room, n, rfl, _⟩ := h
    rfl
  · obtain ⟨c, r, cs, choices, room, n, rfl, hc, hcs, hrm, fit, k⟩ := h
    have hu := hu_of hr
    have hr1 : Room 1 _ := hr.mono (by decide)
    refine ⟨_, pss_cons (ps_set (i := 2) sc_f_ways_by_room_left.nd rfl (Or.inl rfl) (pe_dispF hu (pe_callTy call_tupleF (by rfl) T.tuple (by decide +kernel) (pa_cons (pv 1) pa_nil)) pe_int))
      (pss_cons (ps_for PassesOwn.never rfl (pi_list (pv 0)) (pg_name (i := 3) sc_f_ways_by_room_left.nd rfl (Or.inl rfl))
        (pss_one (ps_set (i := 2) sc_f_ways_by_room_left.nd rfl (Or.inl rfl) (pe_call G1 hr1 rfl m1 kp1 b1 .nil pass0 (pa_cons (pv 2) (pa_cons (pv 3) pa_nil))))))
      (pss_one (ps_ret (pv 2)))), ?_⟩
    -- ways = {tuple(room): 1}
    intro p hp
    have sp0 := same_new (o := .dT []) hp
    refine ⟨_, rfl, r, nsV room, rfl, SqL.of (sp0 _ _ hrm), fun t ob ht hn => ?_⟩
    have npt : p ≠ t := fun e => by
      rw [← e, upd_same] at ht
      cases ht
    have ht0 : H t = none := by
      rw [upd_ne npt.symm] at ht
      exact ht
    refine ⟨by rw [upd_ne npt]; exact upd_same, t, room, 1, rfl, rfl, ⟨ob, hn, upd_same⟩, ?_⟩
    have s1 : Same H (upd (upd (upd H p (.dT [])) t (.frz ob (.tup (nsV room)))) p (FD P w p [(room, t, 1)])) := fun b o e => by
      rw [upd_ne (ne_of_none e hp), upd_ne (ne_of_none e ht0), upd_ne (ne_of_none e hp)]
      exact e
    refine ⟨_, rfl, c, rfl, ⟨_, SqL.of (s1 _ _ hc)⟩, ?_⟩
    refine for_it (walk_list (K := K) (a := c) (xs := cs))
      (fun i σ H' => ∃ (d : Addr) (v3 : Option V), σ = [some (.ref c), some (.ref r), some (.ref d), v3] ∧ Same H H' ∧ TabAt P w H' d ((choices.take i).foldl dealOne [(room, 1)]))
      ⟨p, none, rfl, s1, [(room, t, 1)], rfl, upd_same, fun e he => ?_⟩ (fun i σ H' _ ⟨_, _, _, q, _⟩ => SqL.of (q _ _ hc)) ?_ ?_
    · rw [List.mem_singleton.mp he]
      exact ⟨ob, hn, by rw [upd_ne npt.symm]; exact upd_same⟩
    · rintro i x σ H1 H2 hi ⟨d, v3, rfl, sm, hd⟩ ⟨rfl, hx⟩
      obtain ⟨o, ho, l, rfl, hl⟩ := paired_get (hcs.same sm) hx
      have next : (choices.take (i + 1)).foldl dealOne [(room, 1)] = dealOne ((choices.take i).foldl dealOne [(room, 1)]) o := by
        rw [take_snoc ho, List.foldl_append]
        rfl
      have ilt : i < choices.length := (List.getElem?_eq_some_iff.mp ho).1
      have good : Good room (choices.length + n - i) ((choices.take i).foldl dealOne [(room, 1)]) := by
        refine good_all (choices.take i) (choices.length + n - i) _ (good_start _ ?_)
        rw [List.length_take, fit.sum]
        omega
      have once : (keys ((choices.take i).foldl dealOne [(room, 1)])).Nodup := by
        cases i with
        | zero => simp [keys]
        | succ i =>
          have hi' : choices[i]? = some (choices[i]'(by omega)) := List.getElem?_eq_getElem _
          rw [take_snoc hi', List.foldl_append]
          exact dealOne_keys _ _
      refine ⟨_, rfl, _, rfl, d, l, (choices.take i).foldl dealOne [(room, 1)], o, room, choices.length + n - (i + 1), rfl, hd, SqL.of hl, ⟨?_, once, fit.small, fit.short, fit.there o (List.mem_of_getElem? ho)⟩, ?_⟩
      · have e : choices.length + n - (i + 1) + 1 = choices.length + n - i := by omega
        rw [e]
        exact good
      · intro H3 q s3 hq
        exact ⟨q, _, rfl, sm.trans s3, by rw [next]; exact hq⟩
    · rintro σ H1 ⟨d, v3, rfl, sm, hd⟩
      have hl : cs.length = choices.length := hcs.length
      rw [hl, List.take_length] at hd
      exact ⟨_, rfl, k H1 d sm hd⟩
theorem ok_count {f : Addr} {fd : FuncData} (F : Fun K "count_deals" "count_deals" s_f_count_deals f fd) (T : TxtDeals mg) (C : HasF P w K mg base "ways_by_room_left" 2 ["choices", "room"] (spWays P w)) :
    FnOk P w K mg base CX0 3 f fd ["choices", "room"] (spCount K) := by
  obtain ⟨f1, fd1, m1, kp1, G1, b1⟩ := C
  refine F.ok sc_f_count_deals (fun vs H Q E h => ?_) (fun cdv A outer s H vs Q E hr h => ?_)
  · obtain ⟨c, r, cs, choices, room, rfl, _⟩ := h
    rfl
  · obtain ⟨c, r, cs, choices, room, rfl, hc, hcs, hrm, fit, k⟩ := h
    have hr1 : Room 2 _ := hr.mono (by decide)
    refine ⟨_, pss_one (ps_ret (pe_sumF rfl rfl T.sum (pe_call G1 hr1 rfl m1 kp1 b1 .nil pass0 (pa_cons (pv 0) (pa_cons (pv 1) pa_nil))))), ?_⟩
    refine ⟨_, rfl, _, rfl, c, r, cs, choices, room, 0, rfl, hc, hcs, hrm, fit, fun H1 d s1 ⟨es, hes, hd, fk⟩ => ?_⟩
    refine ⟨d, es, rfl, hd, fk, ?_⟩
    rw [hes]
    exact k H1 s1
theorem flatten_zero (n : Nat) : (List.replicate n [V.int 0]).flatten = nsV (List.replicate n 0) := by
  induction n with
  | zero => rfl
  | succ n ih =>
    rw [List.replicate_succ, List.flatten_cons, ih, List.replicate_succ]
    rfl
theorem ok_by_place {f : Addr} {fd : FuncData} (F : Fun K "count_by_place" "count_by_place" s_f_count_by_place f fd) (T : TxtDeals mg) (C : HasF P w K mg base "ways_by_room_left" 2 ["choices", "room"] (spWays P w)) :
    FnOk P w K mg base CX0 3 f fd ["others", "places", "room"] (spByPlace K) := by
  obtain ⟨f1, fd1, m1, kp1, G1, b1⟩ := C
  refine F.ok sc_f_count_by_place (fun vs H Q E h => ?_) (fun cdv A outer s H vs Q E hr h => ?_)
  · obtain ⟨c, l, r, cs, others, places, room, rfl, _⟩ := h
    rfl
  · obtain ⟨c, l, r, cs, others, places, room, rfl, hc, hcs, hl, hrm, fit, k⟩ := h
    have hu := hu_of hr
    have hr1 : Room 2 _ := hr.mono (by decide)
    refine ⟨_, pss_cons (ps_set (i := 3) sc_f_count_by_place.nd rfl (Or.inl rfl) (pe_op op_rep (pe_lst (pa_cons pe_int pa_nil)) (pe_callB call_len_seq (by rfl) T.len PySem.boot_len (pa_cons (pv 2) pa_nil))))
      (pss_cons (ps_set (i := 4) sc_f_count_by_place.nd rfl (Or.inl rfl) (pe_call G1 hr1 rfl m1 kp1 b1 .nil pass0 (pa_cons (pv 0) (pa_cons (pv 2) pa_nil))))
      (pss_cons (ps_lock (ps_for PassesOwn.never rfl (pi_keysF (pv 4)) (pg_name (i := 5) sc_f_count_by_place.nd rfl (Or.inl rfl))
        (pss_cons (ps_set (i := 6) sc_f_count_by_place.nd rfl (Or.inl rfl) (pe_bmF PySem.F.plainAttrs_tuple PySem.F.slot_tuple_index PySem.F.type_tuple_index mt_tupIndex (pv 5) (pa_cons pe_int pa_nil)))
        (pss_one (ps_if (pt_cmpR op_in_seq (pv 6) (pv 1) (by rfl)) (pss_one (ps_asg (pe_dgetF hu (pv 4) (pv 5) (fun _ _ => rfl)) (pg_sub (pv 3) (pv 6) set_list))) pss_nil)))))
      (pss_one (ps_ret (pv 3))))), ?_⟩
    have z62 : room.length ≤ 1000 := fit.short
    -- counts
    refine ⟨by show 1 ≤ sizeLine; decide, fun a0 ha0 => ?_⟩
    have s0 := same_new (o := .lst [.int 0]) ha0
    refine ⟨_, rfl, r, nsV room, rfl, .inl (SqL.of (s0 _ _ hrm)), ?_⟩
    rw [nsV_len]
    refine ⟨a0, _, _, rfl, rfl, upd_same, by omega, by omega, ?_, fun a ha => ?_⟩
    · show 1 * ((room.length : Nat) : Int).toNat ≤ sizeLine
      have : (1000 : Nat) ≤ sizeLine := by decide
      omega
    have ha' : H a = none := same_free s0 ha
    have e0 : (List.replicate ((room.length : Nat) : Int).toNat [V.int 0]).flatten = nsV (placeOf places room.length []) := by
      rw [placeOf_nil, flatten_zero]
      rfl
    rw [e0]
    have s1 := s0.trans (same_new (o := .lst (nsV (placeOf places room.length []))) ha)
    -- ways
    refine ⟨_, rfl, _, rfl, c, r, cs, others, room, 1, rfl, s1 _ _ hc, hcs.same s1, s1 _ _ hrm, fit, fun H1 d s2 ⟨es, hes, hd, fk⟩ => ?_⟩
    have hac : H1 a = some (.lst (nsV (placeOf places room.length []))) := s2 _ _ upd_same
    have nad : a ≠ d := ne_of hac hd fun z => nomatch z
    have s3 := s1.trans s2
    have good := dealAll_good fit.sum
    have once := dealAll_keys others room
    generalize hTab : dealAll others room = tab at hes good once
    subst hes
    -- the walk: ways locked
    refine ⟨d, FD P w d es, hd, True.intro, fun od => ?_⟩
    refine ⟨_, rfl, d, od, es, rfl, upd_same, ?_⟩
    have fk0 : FKeys (upd H1 d (.frz od (FD P w d es))) es := fk.keep (fr_upd_of hd fun x u z => nomatch z)
    refine for_it (walk_keysF (xs := es) (d := d) (o := od))
      (fun i σ H' => ∃ v5 v6 : Option V, σ = [some (.ref c), some (.ref l), some (.ref r), some (.ref a), some (.ref d), v5, v6] ∧ SameBut [a, d] H1 H' ∧ H' d = some (.frz od (FD P w d es)) ∧ FKeys H' es ∧
        H' a = some (.lst (nsV (placeOf places room.length ((tabOf es).take i)))))
      ⟨none, none, rfl, but_upd.mono (fun x hx => by simp at hx; simp [hx]), upd_same, fk0, by rw [upd_ne nad]; exact hac⟩ (fun i σ H' _ ⟨_, _, _, _, q, q2, _⟩ => ⟨q, q2⟩) ?_ ?_
    · rintro i x σ H2 H3 hi ⟨v5, v6, rfl, sb, hd2, fk2, ha2⟩ ⟨rfl, left, q, cnt, he0, rfl, hq⟩
      have he : (tabOf es)[i]? = some (left, cnt) := by
        unfold tabOf
        rw [List.getElem?_map, he0]
        rfl
      have memt : (left, cnt) ∈ tabOf es := List.mem_of_getElem? he
      have mem : left ∈ keys (tabOf es) := List.mem_map.mpr ⟨(left, cnt), memt, rfl⟩
      obtain ⟨below, sum1⟩ := good left mem
      obtain ⟨p, hp, rfl⟩ := is_unit below.1 sum1
      have hl3 : H3 l = some (.lst (nsV places)) := by
        refine sb _ _ (s3 _ _ hl) ?_
        simp only [List.mem_cons, List.not_mem_nil, or_false]
        rintro (w | w)
        · rw [w, ha'] at hl
          cases hl
        · have := s3 _ _ hl
          rw [w, hd] at this
          cases this
      refine ⟨_, rfl, ⟨q, _, rfl, hq⟩, q, nsV (unit room.length p), nV 1, p, nV 1, rfl, rfl, hq.sq, rfl, flat_nsV _, ?_, by rw [eqV_nV]; rfl, fun m z' hm hz' => ?_, ?_⟩
      · unfold nsV
        rw [List.getElem?_map, unit_at hp, if_pos rfl]
        rfl
      · unfold nsV at hz'
        rw [List.getElem?_map, unit_at (by omega), if_neg (by omega)] at hz'
        cases hz'
        rw [eqV_nV]
        rfl
      refine ⟨_, rfl, _, rfl, l, nsV places, rfl, .inl (SqL.of hl3), rfl, flat_nsV _, _, rfl, ?_⟩
      have fresh : unit room.length p ∉ keys ((tabOf es).take i) := by
        intro w
        obtain ⟨z, hz, ez⟩ := List.mem_map.mp w
        obtain ⟨j, hj, ej⟩ := List.mem_iff_getElem.mp hz
        have hji : j < i := by
          rw [List.length_take] at hj
          omega
        have hjt : (tabOf es)[j]? = some z := by
          rw [List.getElem_take] at ej
          rw [← ej]
          exact List.getElem?_eq_getElem _
        have g1 : (keys (tabOf es))[j]? = some (unit room.length p) := by
          unfold keys
          rw [List.getElem?_map, hjt, ← ez]
          rfl
        have g2 : (keys (tabOf es))[i]? = some (unit room.length p) := by
          unfold keys
          rw [List.getElem?_map, he]
          rfl
        have ilt : i < (keys (tabOf es)).length := (List.getElem?_eq_some_iff.mp g2).1
        have jlt : j < (keys (tabOf es)).length := by omega
        have := (List.getElem?_inj jlt once).mp (g1.trans g2.symm)
        omega
      have step : placeOf places room.length ((tabOf es).take (i + 1)) = if places.contains p = true then (placeOf places room.length ((tabOf es).take i)).set p cnt else placeOf places room.length ((tabOf es).take i) := by
        rw [take_snoc he]
        exact placeOf_more hp fresh
      have tin : (if false = true then !inV (nV p) (nsV places) else inV (nV p) (nsV places)) = places.contains p := by
        rw [if_neg Bool.false_ne_true]
        exact in_nsV p places
      refine ite2 (fun w => ?_) (fun w => ?_)
      · have w' : places.contains p = true := by rw [← tin]; exact w
        rw [if_pos w'] at step
        have got : getT (tabOf es) (unit room.length p) = some cnt := getT_mem _ once memt
        refine ⟨_, rfl, _, rfl, d, q, es, unit room.length p, cnt, rfl, rfl, .inr ⟨od, hd2⟩, fk2, hq, got, ?_⟩
        refine ⟨_, rfl, _, rfl, a, _, (p : Int), p, rfl, rfl, ha2, ?_, ?_⟩
        · rw [nsV_len, placeOf_len]
          unfold ixN
          rw [if_pos (by omega), if_pos (by omega)]
          rfl
        · refine ⟨_, _, rfl, sb.trans (but_upd.mono fun x hx => by simp at hx; simp [hx]), by rw [upd_ne nad.symm]; exact hd2, fk2.keep (fr_upd_of ha2 fun x u z => nomatch z), ?_⟩
          rw [upd_same, step]
          unfold nsV
          rw [List.map_set]
      · have w' : ¬ places.contains p = true := by rw [← tin]; exact w
        rw [if_neg w'] at step
        exact ⟨_, _, rfl, sb, hd2, fk2, by rw [step]; exact ha2⟩
    · rintro σ H2 ⟨v5, v6, rfl, sb, hd2, fk2, ha2⟩
      rw [← tabOf_len, List.take_length] at ha2
      refine ⟨hd2, _, rfl, ?_⟩
      refine k _ a (fun b o e => ?_) ha' (by rw [upd_ne nad]; unfold byPlace; rw [hTab]; exact ha2)
      by_cases z : b = d
      · subst z
        rw [upd_same, ← hd, s3 _ _ e]
      · rw [upd_ne z]
        refine sb b o (s3 _ _ e) ?_
        simp only [List.mem_cons, List.not_mem_nil, or_false]
        rintro (w | w)
        · rw [w, ha'] at e
          cases e
        · exact z w
end
end Dm
/-! ## DmTiles -/
/-! The tiles: all_tiles, tile_of, other_number. -/
namespace Dm
open PySem PySem.Spec PyProof.Rows L2
open Kg86 (Tile full)

def tileV (t : Tile) : List V := [nV t.a, nV t.b]
def TupAt (H : Hp) (t : Tile) (v : V) : Prop := ∃ p, v = V.ref p ∧ H p = some (.tup (tileV t))
/-- tuples of tiles, each at its place -/
def TilesAt (H : Hp) (vs : List V) (ts : List Tile) : Prop := Paired (fun v t => TupAt H t v) vs ts
theorem TilesAt.keep {H H' : Hp} {vs : List V} {ts : List Tile} (h : TilesAt H vs ts) (s : ∀ b xs, H b = some (.tup xs) → H' b = some (.tup xs)) : TilesAt H' vs ts :=
  Paired.mapP h fun _ _ ⟨p, e, q⟩ => ⟨p, e, s _ _ q⟩
theorem TilesAt.same {H H' : Hp} {vs : List V} {ts : List Tile} (h : TilesAt H vs ts) (s : Same H H') : TilesAt H' vs ts := h.keep fun b xs => s b _

/-! ### all_tiles -/
def rowOf (top a : Nat) : List Tile := (List.range (top + 1 - a)).map fun j => ⟨a, a + j⟩
theorem full_rows {top : Nat} (h : top ≤ 6) : full top = (List.range (top + 1)).flatMap (rowOf top) := by
  have : top = 0 ∨ top = 1 ∨ top = 2 ∨ top = 3 ∨ top = 4 ∨ top = 5 ∨ top = 6 := by omega
  rcases this with rfl | rfl | rfl | rfl | rfl | rfl | rfl <;> decide
theorem rows_short (top : Nat) (i : Nat) (h : top ≤ 6) (hi : i ≤ 7) : ((List.range i).flatMap (rowOf top)).length ≤ 49 := by
  have hr : ∀ a, (rowOf top a).length ≤ 7 := fun a => by
    unfold rowOf
    rw [List.length_map, List.length_range]
    omega
  have gen : ∀ l : List Nat, (l.flatMap (rowOf top)).length ≤ 7 * l.length := by
    intro l
    induction l with
    | nil => simp
    | cons a r ih =>
      rw [List.flatMap_cons, List.length_append, List.length_cons]
      have := hr a
      omega
  have := gen (List.range i)
  rw [List.length_range] at this
  omega
def spAll : Sp := fun vs H Q _ => ∃ (g : Int), vs = [.int g] ∧ -1 ≤ g ∧ g ≤ 6 ∧
  ∀ (H' : Hp) (l : Addr) (vs' : List V), Same H H' → H l = none → H' l = some (.lst vs') → TilesAt H' vs' ((List.range (g + 1).toNat).flatMap (rowOf g.toNat)) → Q (.ref l) H'
structure TxtTiles (mg : Str → Option Value) : Prop where
  range : mg "range" = none
  min : mg "min" = none
  max : mg "max" = none
  len : mg "len" = none
  sum : mg "sum" = none
section
variable {P : Program} {w : World} {K : PySem.W.Frag} {mg : Str → Option Value} {base : Heap}
theorem ok_all {f : Addr} {fd : FuncData} (F : Fun K "all_tiles" "all_tiles" s_f_all_tiles f fd) (T : TxtTiles mg) : FnOk P w K mg base CX0 1 f fd ["greatest"] spAll := by
  refine F.ok sc_f_all_tiles (fun vs H Q E h => ?_) (fun cdv A outer s H vs Q E hr h => ?_)
  · obtain ⟨g, rfl, _⟩ := h
    rfl
  · obtain ⟨g, rfl, g0, g6, k⟩ := h
    refine ⟨_, pss_cons (ps_set (i := 1) sc_f_all_tiles.nd rfl (Or.inl rfl) (pe_lst pa_nil))
      (pss_cons (ps_for PassesOwn.never rfl (pi_range1 rfl T.range (pa_cons (pe_op op_add (pv 0) pe_int) pa_nil)) (pg_name (i := 2) sc_f_all_tiles.nd rfl (Or.inl rfl))
        (pss_one (ps_for PassesOwn.never rfl (pi_range2 rfl T.range (pa_cons (pv 2) (pa_cons (pe_op op_add (pv 0) pe_int) pa_nil))) (pg_name (i := 3) sc_f_all_tiles.nd rfl (Or.inl rfl))
          (pss_one (ps_expr (pe_bm PySem.F.plainAttrs_list PySem.F.slot_list_append PySem.F.type_list_append mt_append (pv 1) (pa_cons (pe_tup (pa_cons (pv 2) (pa_cons (pv 3) pa_nil))) pa_nil)))))))
      (pss_one (ps_ret (pv 1)))), ?_⟩
    refine ⟨Nat.zero_le _, fun l hl => ?_⟩
    have s0 := same_new (o := .lst []) hl
    have tn : (0 + (g + 1)).toNat = (g + 1).toNat := by rw [Int.zero_add]
    refine ⟨_, rfl, _, _, rfl, rfl, g + 1, rfl, by omega, by omega, ?_⟩
    refine for_it (walk_range (lo := 0) (n := (g + 1).toNat))
      (fun i σ H' => ∃ (v2 v3 : Option V) (ts : List V), σ = [some (.int g), some (.ref l), v2, v3] ∧ Same H H' ∧ H' l = some (.lst ts) ∧ TilesAt H' ts ((List.range i).flatMap (rowOf g.toNat)))
      ⟨none, none, [], rfl, s0, upd_same, .nil⟩ (fun _ _ _ _ _ => True.intro) ?_ ?_
    · rintro i x σ H1 H2 hi ⟨v2, v3, ts, rfl, sm, ht, htt⟩ ⟨rfl, rfl⟩
      have gi : (i : Int) ≤ g := by omega
      have i7 : i ≤ 7 := by omega
      have nn : ((g + 1) - (0 + (i : Int))).toNat = g.toNat + 1 - i := by omega
      refine ⟨_, rfl, _, rfl, _, _, rfl, rfl, (0 + (i : Int)), g + 1, rfl, ⟨by omega, by omega, by omega, by omega⟩, ?_⟩
      rw [nn]
      refine for_it (walk_range (lo := 0 + (i : Int)) (n := g.toNat + 1 - i))
        (fun j σ H' => ∃ (v3 : Option V) (ts : List V), σ = [some (.int g), some (.ref l), some (.int (0 + (i : Int))), v3] ∧ Same H H' ∧ H' l = some (.lst ts) ∧
          TilesAt H' ts ((List.range i).flatMap (rowOf g.toNat) ++ (List.range j).map fun j => ⟨i, i + j⟩))
        ⟨v3, ts, rfl, sm, ht, by simpa using htt⟩ (fun _ _ _ _ _ => True.intro) ?_ ?_
      · rintro j x σ H3 H4 hj ⟨u3, us, rfl, sm3, hu, hut⟩ ⟨rfl, rfl⟩
        have hlen : us.length < sizeLine := by
          rw [Paired.length hut, List.length_append, List.length_map, List.length_range]
          have := rows_short g.toNat i (by omega) i7
          exact Nat.lt_of_lt_of_le (by omega : _ < 100) (by decide)
        refine ⟨_, rfl, .inl ⟨rfl, _, SqL.of hu⟩, _, rfl, _, rfl, by show 2 ≤ sizeLine; decide, fun t ht0 => ?_⟩
        have s4 := same_new (o := .tup [V.int (0 + (i : Int)), V.int (0 + (i : Int) + (j : Int))]) ht0
        have nlt : l ≠ t := ne_of_none hu ht0
        refine ⟨l, us, .ref t, rfl, rfl, by rw [upd_ne nlt]; exact hu, hlen, ?_⟩
        refine ⟨_, us ++ [.ref t], rfl, fun b o e => ?_, upd_same, ?_⟩
        · have nbl : b ≠ l := ne_of_none e hl
          rw [upd_ne nbl]
          exact s4 b o (sm3 b o e)
        · rw [List.range_succ, List.map_append, ← List.append_assoc]
          refine Paired.snoc (hut.keep fun b xs e => ?_) ⟨t, rfl, ?_⟩
          · have nbl : b ≠ l := ne_of e hu (fun z => nomatch z)
            rw [upd_ne nbl]
            exact s4 b _ e
          · rw [upd_ne nlt.symm, upd_same]
            show some (HO.tup [V.int (0 + (i : Int)), V.int (0 + (i : Int) + (j : Int))]) = some (HO.tup [V.int (i : Int), V.int ((i + j : Nat) : Int)])
            have e1 : (0 + (i : Int)) = i := by omega
            have e2 : (0 + (i : Int) + (j : Int)) = ((i + j : Nat) : Int) := by omega
            rw [e2, e1]
      · rintro σ H3 ⟨u3, us, rfl, sm3, hu, hut⟩
        refine ⟨_, _, us, rfl, sm3, hu, ?_⟩
        rw [List.range_succ, List.flatMap_append]
        simpa [rowOf] using hut
    · rintro σ H1 ⟨v2, v3, ts, rfl, sm, ht, htt⟩
      exact ⟨_, rfl, k H1 l ts sm hl ht htt⟩

/-! ### tile_of -/
def spTileOf : Sp := fun vs H Q _ => ∃ (x y : Int), vs = [.int x, .int y] ∧ ∀ (H' : Hp) (p : Addr), Same H H' → H' p = some (.tup [.int (min x y), .int (max x y)]) → Q (.ref p) H'
theorem ok_tile_of {f : Addr} {fd : FuncData} (F : Fun K "tile_of" "tile_of" s_f_tile_of f fd) (T : TxtTiles mg) : FnOk P w K mg base CX0 1 f fd ["one", "other"] spTileOf := by
  refine F.ok sc_f_tile_of (fun vs H Q E h => ?_) (fun cdv A outer s H vs Q E hr h => ?_)
  · obtain ⟨x, y, rfl, _⟩ := h
    rfl
  · obtain ⟨x, y, rfl, k⟩ := h
    refine ⟨_, pss_one (ps_ret (pe_tup (pa_cons (pe_callB (call_min2 rfl) (by rfl) T.min (by decide +kernel) (pa_cons (pv 0) (pa_cons (pv 1) pa_nil)))
      (pa_cons (pe_callB (call_max2 rfl) (by rfl) T.max (by decide +kernel) (pa_cons (pv 0) (pa_cons (pv 1) pa_nil))) pa_nil)))), ?_⟩
    refine ⟨_, rfl, _, rfl, x, y, rfl, _, rfl, _, rfl, x, y, rfl, by show 2 ≤ sizeLine; decide, fun p hp => ?_⟩
    refine k _ p (same_new hp) ?_
    rw [upd_same]
    have e1 : (if y < x then y else x) = min x y := by
      split <;> omega
    have e2 : (if y > x then y else x) = max x y := by
      split <;> omega
    rw [e1, e2]

/-! ### other_number -/
def spOther (K : PySem.W.Frag) : Sp := fun vs H Q _ => ∃ (p : Addr) (t : Tile) (n : Nat), vs = [.ref p, nV n] ∧ H p = some (.tup (tileV t)) ∧ Q (nV (otherOf t n)) H
theorem ok_other {f : Addr} {fd : FuncData} (F : Fun K "other_number" "other_number" s_f_other_number f fd) : FnOk P w K mg base CX0 1 f fd ["tile", "number"] (spOther K) := by
  refine F.ok sc_f_other_number (fun vs H Q E h => ?_) (fun cdv A outer s H vs Q E hr h => ?_)
  · obtain ⟨p, t, n, rfl, _⟩ := h
    rfl
  · obtain ⟨p, t, n, rfl, hp, k⟩ := h
    refine ⟨_, pss_cons (ps_if (pt_cmpR op_eq (pe_ix ix_tup (pv 0) pe_int (fun _ _ => rfl)) (pv 1) (nomark _)) (pss_one (ps_ret (pe_ix ix_tup (pv 0) pe_int (fun _ _ => rfl)))) pss_nil)
      (pss_one (ps_ret (pe_ix ix_tup (pv 0) pe_int (fun _ _ => rfl)))), ?_⟩
    have a0 : atI (tileV t) 0 = some (nV t.a) := rfl
    have a1 : atI (tileV t) 1 = some (nV t.b) := rfl
    refine ⟨_, rfl, p, _, 0, _, rfl, rfl, SqT.of hp, a0, _, rfl, rfl, _, rfl, ?_⟩
    refine ite2 (fun c => ?_) (fun c => ?_)
    · have e : t.a = n := by
        have := of_decide_eq_true c
        unfold nV at this
        injection this with this
        omega
      refine ⟨_, rfl, p, _, 1, _, rfl, rfl, SqT.of hp, a1, ?_⟩
      unfold otherOf at k
      rw [if_pos e] at k
      exact k
    · have e : ¬ t.a = n := fun z => c (decide_eq_true (by rw [z]))
      refine ⟨_, rfl, p, _, 0, _, rfl, rfl, SqT.of hp, a0, ?_⟩
      unfold otherOf at k
      rw [if_neg e] at k
      exact k

/-! ### tiles_of -/
theorem twos_at : ∀ (ns : List Int) (m : Nat), ns.length = 2 * m → ∀ i, i < m → (twos ns)[i]? = some (min (ns.getD (2 * i) 0) (ns.getD (2 * i + 1) 0), max (ns.getD (2 * i) 0) (ns.getD (2 * i + 1) 0))
  | [], m, h, i, hi => by
    simp at h
    omega
  | [x], m, h, i, hi => by
    simp at h
    omega
  | x :: y :: r, 0, h, i, hi => absurd hi (Nat.not_lt_zero i)
  | x :: y :: r, m + 1, h, 0, _ => rfl
  | x :: y :: r, m + 1, h, i + 1, hi => by
    have h' : r.length = 2 * m := by
      simp at h
      omega
    have ih := twos_at r m h' i (by omega)
    show (twos r)[i]? = _
    rw [ih]
    have e1 : 2 * (i + 1) = 2 * i + 1 + 1 := by omega
    have e2 : 2 * (i + 1) + 1 = 2 * i + 1 + 1 + 1 := by omega
    rw [e2, e1, List.getD_cons_succ, List.getD_cons_succ, List.getD_cons_succ, List.getD_cons_succ]
theorem twos_len : ∀ (ns : List Int) (m : Nat), ns.length = 2 * m → (twos ns).length = m
  | [], m, h => by
    have e : m = 0 := by
      simp at h
      omega
    rw [e]
    rfl
  | [x], m, h => by
    simp at h
    omega
  | x :: y :: r, 0, h => by simp at h
  | x :: y :: r, m + 1, h => by
    have h' : r.length = 2 * m := by
      simp at h
      omega
    show (twos r).length + 1 = m + 1
    rw [twos_len r m h']
/-- tuples of two numbers, each at its place -/
def HandAt (H : Hp) (vs : List V) (ps : List (Int × Int)) : Prop := Paired (fun v (p : Int × Int) => ∃ q, v = V.ref q ∧ H q = some (.tup [.int p.1, .int p.2])) vs ps
theorem HandAt.same {H H' : Hp} {vs : List V} {ps : List (Int × Int)} (h : HandAt H vs ps) (s : Same H H') : HandAt H' vs ps :=
  Paired.mapP h fun _ _ ⟨p, e, q⟩ => ⟨p, e, s _ _ q⟩
def spTilesOf (K : PySem.W.Frag) : Sp := fun vs H Q _ => ∃ (a : Addr) (ns : List Int) (m : Nat), vs = [.ref a] ∧ SqL K H a (ns.map V.int) ∧ ns.length = 2 * m ∧ m ≤ 10 ∧
  ∀ (H' : Hp) (l : Addr) (vs' : List V), Same H H' → H l = none → H' l = some (.lst vs') → HandAt H' vs' (twos ns) → Q (.ref l) H'
theorem rg2 (m : Nat) (h : m ≤ 10) : RgC 0 ((2 * m : Nat) : Int) 2 m := by
  have : m = 0 ∨ m = 1 ∨ m = 2 ∨ m = 3 ∨ m = 4 ∨ m = 5 ∨ m = 6 ∨ m = 7 ∨ m = 8 ∨ m = 9 ∨ m = 10 := by omega
  rcases this with rfl | rfl | rfl | rfl | rfl | rfl | rfl | rfl | rfl | rfl | rfl <;> exact ⟨by decide, by decide, by decide, by decide⟩
theorem ints_at {ns : List Int} {i : Nat} (h : i < ns.length) : atI (ns.map V.int) (i : Int) = some (V.int (ns.getD i 0)) := by
  refine atI_nat ?_
  rw [List.getElem?_map, List.getElem?_eq_getElem h, List.getD_eq_getElem?_getD, List.getElem?_eq_getElem h]
  rfl
theorem ok_tiles_of {f : Addr} {fd : FuncData} (F : Fun K "tiles_of" "tiles_of" s_f_tiles_of f fd) (T : TxtTiles mg) (C : HasF P w K mg base "tile_of" 1 ["one", "other"] spTileOf) :
    FnOk P w K mg base CX0 2 f fd ["numbers"] (spTilesOf K) := by
  obtain ⟨f1, fd1, m1, kp1, G1, b1⟩ := C
  refine F.ok sc_f_tiles_of (fun vs H Q E h => ?_) (fun cdv A outer s H vs Q E hr h => ?_)
  · obtain ⟨a, ns, m, rfl, _⟩ := h
    rfl
  · obtain ⟨a, ns, m, rfl, ha, hm, hm10, k⟩ := h
    have hr1 : Room 1 _ := hr.mono (by decide)
    refine ⟨_, pss_one (ps_ret (pe_lc (own := [("at", 1)]) (g := gName 1) rfl sc_f_tiles_of.nd
        (pi_range3 rfl T.range (pa_cons pe_int (pa_cons (pe_callB call_len_seq (by rfl) T.len PySem.boot_len (pa_cons (pv 0) pa_nil)) (pa_cons pe_int pa_nil))))
        (blkOk_by (own := [("at", 1)]) (N := ["numbers", "at"]) (sc := defScope s_f_tiles_of) (by decide +kernel))
        (fun _ _ _ _ _ => pg_name (i := 1) sc_f_tiles_of.nd rfl (Or.inl rfl)) (fun _ _ _ _ _ => pts_nil)
        (fun _ _ _ _ _ => pe_call G1 hr1 rfl m1 kp1 b1 .nil pass0 (pa_cons (pe_ix (r := rIxL K) (ix_list (X := Cx.blk _ _ _ _ _ _)) (pv 0) (pv 1) (fun _ _ => rfl)) (pa_cons (pe_ix (r := rIxL K) (ix_list (X := Cx.blk _ _ _ _ _ _)) (pv 0) (pe_op op_add (pv 1) pe_int) (fun _ _ => rfl)) pa_nil))))), ?_⟩
    refine ⟨_, rfl, a, ns.map V.int, rfl, .inl ha, ?_⟩
    rw [List.length_map, hm]
    refine ⟨0, _, 2, m, rfl, rg2 m hm10, fun D hD => ?_⟩
    refine lc_it (walk_rangeC (lo := 0) (c := 2) (n := m)) (fun i H' => Same H H' ∧ ∃ acc, H' D = some (.lst acc) ∧ HandAt H' acc ((twos ns).take i) ∧ ∀ v ∈ acc, v ≠ V.ref D)
      ⟨same_new hD, [], upd_same, .nil, fun v hv => absurd hv (by simp)⟩ (fun _ _ _ _ => True.intro) ?_ ?_
    · rintro i x H1 H2 hi ⟨sm, acc, hacc, hat, nots⟩ ⟨rfl, ex⟩
      have ha1 : SqL K H2 a (ns.map V.int) := sm.seq ha
      have e1 : (0 + ((i : Nat) : Int) * 2) = ((2 * i : Nat) : Int) := by omega
      have e2 : (((2 * i : Nat) : Int) + 1) = ((2 * i + 1 : Nat) : Int) := by omega
      have ex' : x = V.int ((2 * i : Nat) : Int) := ex.trans (congrArg V.int e1)
      subst ex'
      refine ⟨rfl, ?_⟩
      refine ⟨_, rfl, _, rfl, a, _, _, _, rfl, rfl, ha1, ints_at (by omega), _, rfl, _, rfl, _, _, rfl, rfl, a, _, _, _, rfl, rfl, ha1, by rw [e2]; exact ints_at (by omega), ?_⟩
      refine ⟨_, _, rfl, fun H3 p s3 hp => ?_⟩
      have hacc3 := s3 _ _ hacc
      have npD : p ≠ D := ne_of hp hacc3 fun z => nomatch z
      have la : acc.length < sizeLine := by
        have e := Paired.length hat
        rw [List.length_take] at e
        exact Nat.lt_of_lt_of_le (by omega : acc.length < 100) (by decide)
      refine ⟨acc, hacc3, la, fun b o e => ?_, acc ++ [.ref p], upd_same, ?_, ?_⟩
      · rw [upd_ne (ne_of_none e hD)]
        exact s3 _ _ (sm _ _ e)
      · have keep : HandAt (upd H3 D (.lst (acc ++ [.ref p]))) acc ((twos ns).take i) := Paired.mapP hat fun _ _ ⟨b, e, q⟩ => ⟨b, e, by
          rw [upd_ne (ne_of (s3 _ _ q) hacc3 fun z => nomatch z)]
          exact s3 _ _ q⟩
        have tk : (twos ns).take (i + 1) = (twos ns).take i ++ [(min (ns.getD (2 * i) 0) (ns.getD (2 * i + 1) 0), max (ns.getD (2 * i) 0) (ns.getD (2 * i + 1) 0))] := take_snoc (twos_at ns m hm i hi)
        rw [tk]
        exact Paired.snoc keep ⟨p, rfl, by rw [upd_ne npD]; exact hp⟩
      · intro v hv
        rcases List.mem_append.mp hv with w | w
        · exact nots v w
        · rw [List.mem_singleton.mp w]
          intro z
          injection z with z
          exact npD z
    · rintro H1 ⟨sm, acc, hacc, hat, _⟩
      rw [← twos_len ns m hm, List.take_length] at hat
      exact k H1 D acc sm hD hacc hat

/-! ### points_of -/
def spPoints (K : PySem.W.Frag) : Sp := fun vs H Q _ => ∃ (a : Addr) (vs' : List V) (r : List Tile), vs = [.ref a] ∧ H a = some (.lst vs') ∧ TilesAt H vs' r ∧ r.length ≤ 100 ∧ ∀ H' : Hp, Same H H' → Q (nV (Kg86.pips r)) H'
theorem ok_points {f : Addr} {fd : FuncData} (F : Fun K "points_of" "points_of" s_f_points_of f fd) (T : TxtTiles mg) : FnOk P w K mg base CX0 1 f fd ["hand"] (spPoints K) := by
  refine F.ok sc_f_points_of (fun vs H Q E h => ?_) (fun cdv A outer s H vs Q E hr h => ?_)
  · obtain ⟨a, vs', r, rfl, _⟩ := h
    rfl
  · obtain ⟨a, vs', r, rfl, ha, hat, hlen, k⟩ := h
    refine ⟨_, pss_one (ps_ret (pe_callB (cr_sum rfl) (by rfl) T.sum (by decide +kernel) (pa_cons
        (pe_lc (own := [("tile", 1)]) (g := gName 1) rfl sc_f_points_of.nd (pi_list (pv 0)) (blkOk_by (own := [("tile", 1)]) (N := ["hand", "tile"]) (sc := defScope s_f_points_of) (by decide +kernel))
          (fun _ _ _ _ _ => pg_name (i := 1) sc_f_points_of.nd rfl (Or.inl rfl)) (fun _ _ _ _ _ => pts_nil)
          (fun _ _ _ _ _ => pe_op op_add (pe_ix (r := rIxT K) (ix_tup (X := Cx.blk _ _ _ _ _ _)) (pv 1) pe_int (fun _ _ => rfl)) (pe_ix (r := rIxT K) (ix_tup (X := Cx.blk _ _ _ _ _ _)) (pv 1) pe_int (fun _ _ => rfl)))) pa_nil))), ?_⟩
    refine ⟨_, rfl, a, rfl, ⟨vs', SqL.of ha⟩, fun D hD => ?_⟩
    have hl : vs'.length = r.length := Paired.length hat
    refine lc_list (K := K) (a := a) (xs := vs') (fun i H' => Same H H' ∧ H' D = some (.lst (nsV ((r.take i).map fun t => t.a + t.b))))
      ⟨same_new hD, upd_same⟩ (fun i H' _ hp => SqL.of (hp.1 _ _ ha)) ?_ ?_
    · rintro i x H1 hx ⟨sm, hacc⟩
      obtain ⟨t, ht, p, rfl, hp⟩ := paired_get hat hx
      have hp1 := sm _ _ hp
      have a0 : atI (tileV t) 0 = some (nV t.a) := rfl
      have a1 : atI (tileV t) 1 = some (nV t.b) := rfl
      refine ⟨rfl, ?_⟩
      refine ⟨_, rfl, p, _, 0, _, rfl, rfl, SqT.of hp1, a0, _, rfl, p, _, 1, _, rfl, rfl, SqT.of hp1, a1, _, _, rfl, rfl, ?_⟩
      refine ⟨_, hacc, ?_, fun b o e => ?_, ?_⟩
      · rw [nsV_len, List.length_map, List.length_take]
        exact Nat.lt_of_le_of_lt (by omega : _ ≤ 100) (by decide)
      · rw [upd_ne (ne_of_none e hD)]
        exact sm _ _ e
      · rw [upd_same, take_snoc ht, List.map_append]
        unfold nsV
        rw [List.map_append]
        show some (HO.lst (_ ++ [V.int ((t.a : Int) + (t.b : Int))])) = some (HO.lst (_ ++ [V.int ((t.a + t.b : Nat) : Int)]))
        rw [Int.natCast_add]
    · rintro H1 ⟨sm, hacc⟩
      rw [hl, List.take_length] at hacc
      refine ⟨D, (r.map fun t => t.a + t.b).map fun (n : Nat) => (n : Int), rfl, SqL.of ?_, ?_⟩
      · rw [hacc]
        unfold nsV
        rw [List.map_map, List.map_map, List.map_map]
        rfl
      · rw [sum_nV]
        exact k H1 sm
end
end Dm
/-! ## DmRound -/
/-! A round in the heap, and what is asked of it. -/
namespace Dm
open PySem PySem.Spec PyProof.Rows L2
open Kg86 (Tile full State)

/-- where a round lies: the object, its own dict, line, hidden, room, known, lacks -/
structure RA where
  a : Addr
  dx : Addr
  ln : Addr
  hd : Addr
  rm : Addr
  kn : Addr
  lk : Addr
  sh : Addr
def RA.all (A : RA) : List Addr := [A.a, A.ln, A.hd, A.rm, A.kn, A.lk, A.sh]
structure Raw where
  players : Int
  greatest : Int
  turn : Int
  line : List (Nat × Nat)
  hidden : List Tile
  room : List Nat
  kn : List (List Key × V)
  lk : List (List Key × V)
  passes : Int
  sh : List (Key × V)
def rawF (A : RA) (r : Raw) : List (Str × V) := rF (.int r.players) (.int r.greatest) (.int r.turn) (.ref A.ln) (.ref A.hd) (.ref A.rm) (.ref A.kn) (.ref A.lk) (.int r.passes) (.ref A.sh)
def pairV (x : Nat × Nat) : List V := [nV x.1, nV x.2]
def PairsAt (H : Hp) (vs : List V) (l : List (Nat × Nat)) : Prop := Paired (fun v x => ∃ p, v = V.ref p ∧ H p = some (.tup (pairV x))) vs l
theorem PairsAt.keep {H H' : Hp} {vs : List V} {l : List (Nat × Nat)} (h : PairsAt H vs l) (s : ∀ b xs, H b = some (.tup xs) → H' b = some (.tup xs)) : PairsAt H' vs l :=
  Paired.mapP h fun _ _ ⟨p, e, q⟩ => ⟨p, e, s _ _ q⟩
structure RawAt (CR : Addr) (H : Hp) (A : RA) (r : Raw) : Prop where
  ins : H A.a = some (.ins CR A.dx (rawF A r))
  ln : ∃ vs, H A.ln = some (.lst vs) ∧ PairsAt H vs r.line
  hd : ∃ vs, H A.hd = some (.lst vs) ∧ TilesAt H vs r.hidden
  rm : H A.rm = some (.lst (nsV r.room))
  kn : H A.kn = some (.dT r.kn)
  lk : H A.lk = some (.dT r.lk)
  sh : H A.sh = some (.dK r.sh)
  n1 : A.ln ≠ A.hd
  n2 : A.ln ≠ A.rm
  n3 : A.hd ≠ A.rm
  n4 : A.kn ≠ A.lk
theorem RawAt.same {CR : Addr} {H H' : Hp} {A : RA} {r : Raw} (h : RawAt CR H A r) (s : Same H H') : RawAt CR H' A r where
  ins := s _ _ h.ins
  ln := let ⟨vs, a, b⟩ := h.ln; ⟨vs, s _ _ a, b.keep fun _ _ e => s _ _ e⟩
  hd := let ⟨vs, a, b⟩ := h.hd; ⟨vs, s _ _ a, b.same s⟩
  rm := s _ _ h.rm
  kn := s _ _ h.kn
  lk := s _ _ h.lk
  sh := s _ _ h.sh
  n1 := h.n1
  n2 := h.n2
  n3 := h.n3
  n4 := h.n4

/-! ### the round as the specification has it -/
def hid (s : State) : List Tile := if s.left = [] then [] else s.unseen
def tileK (t : Tile) : List Key := keyN [t.a, t.b]
structure KnRel (kn : List (List Key × V)) (known : List (Tile × Nat)) : Prop where
  val : ∀ t : Tile, valV kn (tileK t) = (known.find? fun x => x.1 == t).map fun x => nV x.2
  len : kn.length = known.length
  once : (kn.map (·.1)).Nodup
structure LkRel (lk : List (List Key × V)) (lacks : List (List Nat)) : Prop where
  val : ∀ k n : Nat, (valV lk (keyN [k, n])).isSome = (lacks.getD k []).contains n
  keys : ∀ x ∈ lk.map (·.1), ∃ k n : Nat, x = keyN [k, n] ∧ k ≤ 4 ∧ n ≤ 6
  once : (lk.map (·.1)).Nodup
structure ShRel (sh : List (Key × V)) (shown : List (Nat × List Tile)) : Prop where
  val : ∀ k : Nat, valV sh (Sum.inl (k : Int)) = (shown.lookup k).map fun r => nV (Kg86.pips r)
  len : sh.length = shown.length
def rawOf (s : State) (kn lk : List (List Key × V)) (sh : List (Key × V)) : Raw :=
  ⟨s.left.length, if s.left = [] then -1 else (s.top : Int), if s.over = true then -1 else (s.who : Int), s.line, hid s, s.caps, kn, lk, s.passes, sh⟩
def RoundAt (CR : Addr) (H : Hp) (A : RA) (s : State) : Prop := ∃ kn lk sh, KnRel kn s.known ∧ LkRel lk s.lacks ∧ ShRel sh s.shown ∧ RawAt CR H A (rawOf s kn lk sh)
theorem RoundAt.same {CR : Addr} {H H' : Hp} {A : RA} {s : State} (h : RoundAt CR H A s) (e : Same H H') : RoundAt CR H' A s := let ⟨kn, lk, sh, a, b, d, c⟩ := h; ⟨kn, lk, sh, a, b, d, c.same e⟩
theorem Ok.some_left {s : State} (h : Ok s) : s.left ≠ [] := fun e => by
  have := h.few.1
  rw [e] at this
  simp at this
theorem Ok.hid {s : State} (h : Ok s) : hid s = s.unseen := if_neg h.some_left
theorem lacks_short {s : State} (h : Ok s) : True := True.intro

/-! ### data of the layer: a tile as it is compared -/
def tileD (t : Tile) : PyData := .tuple [.int (t.a : Int), .int (t.b : Int)]
theorem tileD_lay (t : Tile) : (tileD t).canLay0 = true := by simp [tileD, PyData.canLay0, PyData.canLayAll0]
theorem tileD_depth (t : Tile) : (tileD t).depth = 1 := by simp [tileD, PyData.depth, PyData.depthAll]
theorem tilesD_lay : ∀ ts : List Tile, PyData.canLayAll0 (ts.map tileD) = true
  | [] => by simp [PyData.canLayAll0]
  | t :: ts => by simp [PyData.canLayAll0, tileD_lay t, tilesD_lay ts]
theorem tilesD_depth : ∀ ts : List Tile, PyData.depthAll (ts.map tileD) ≤ 1
  | [] => by simp [PyData.depthAll]
  | t :: ts => by
    have h1 := tilesD_depth ts
    have h2 := tileD_depth t
    simp only [List.map_cons, PyData.depthAll]
    omega
theorem tileD_shaped (t : Tile) : SeqAt.shaped (tileD t) = true := by
  show ((tileD t).canLay0 && decide ((tileD t).depth ≤ 64)) = true
  rw [tileD_lay, tileD_depth]
  rfl
theorem tilesD_shaped (ts : List Tile) : SeqAt.shaped (.list (ts.map tileD)) = true := by
  have h1 := tilesD_depth ts
  have h2 : PyData.depth (.list (ts.map tileD)) ≤ 64 := by
    simp only [PyData.depth]
    omega
  show (PyData.canLay0 (.list (ts.map tileD)) && decide (PyData.depth (.list (ts.map tileD)) ≤ 64)) = true
  rw [Bool.and_eq_true]
  exact ⟨by simp only [PyData.canLay0]; exact tilesD_lay ts, decide_eq_true h2⟩
theorem tileD_eqv (t u : Tile) : PyData.eqv (tileD t) (tileD u) = decide (t = u) := by
  obtain ⟨a, b⟩ := t
  obtain ⟨c, d⟩ := u
  have e : PyData.eqv (tileD ⟨a, b⟩) (tileD ⟨c, d⟩) = (((a : Int) == (c : Int)) && (((b : Int) == (d : Int)) && true)) := by simp only [tileD, PyData.eqv, PyData.eqvAll]
  rw [e]
  by_cases h1 : a = c
  · by_cases h2 : b = d
    · subst h1 h2
      simp
    · have q : ((b : Int) == (d : Int)) = false := beq_eq_false_iff_ne.mpr (by omega)
      rw [q]
      simp [h2]
  · have q : ((a : Int) == (c : Int)) = false := beq_eq_false_iff_ne.mpr (by omega)
    rw [q]
    simp [h1]
theorem dp_tile {K : PySem.W.Frag} {H : Hp} {t : Tile} {v : V} (h : TupAt H t v) : Dp K H v (tileD t) := by
  obtain ⟨p, rfl, hp⟩ := h
  exact .tup (SqT.of hp) (.cons (.int _) (.cons (.int _) .nil))
theorem dp_tiles {K : PySem.W.Frag} {H : Hp} : ∀ {vs : List V} {ts : List Tile}, TilesAt H vs ts → DpAll K H vs (ts.map tileD)
  | _, _, .nil => .nil
  | _, _, .cons h t => .cons (dp_tile h) (dp_tiles t)
theorem any_tile (t : Tile) : ∀ ts : List Tile, ((ts.map tileD).any fun z => PyData.eqv z (tileD t)) = ts.contains t
  | [] => rfl
  | u :: r => by
    rw [List.map_cons, List.any_cons, any_tile t r, tileD_eqv, List.contains_cons]
    congr 1
    by_cases h : u = t
    · subst h
      simp
    · rw [decide_eq_false h]
      exact (beq_eq_false_iff_ne.mpr fun z => h z.symm).symm

structure TxtR (K : PySem.W.Frag) (mg : Str → Option Value) (CR : Addr) : Prop where
  cl : Cls K CR
  players : NoAttr K CR "players"
  greatest : NoAttr K CR "greatest"
  turn : NoAttr K CR "turn"
  line : NoAttr K CR "line"
  hidden : NoAttr K CR "hidden"
  room : NoAttr K CR "room"
  known : NoAttr K CR "known"
  lacks : NoAttr K CR "lacks"
  passes : NoAttr K CR "passes"
  shown : NoAttr K CR "shown"
  len : mg "len" = none
  range : mg "range" = none
/-- a method of a class, its promise -/
def HasM (P : Program) (w : World) (K : PySem.W.Frag) (mg : Str → Option Value) (base : Heap) (C : Addr) (name : Str) (k : Nat) (ps : List Str) (sp : Sp) : Prop :=
  ∃ (f : Addr) (fd : FuncData), Meth K C name f ∧ FnOk P w K mg base CX0 k f fd ps sp ∧ Binds K fd ps []
/-! ### the promises -/
def spHasTile (CR : Addr) : Sp := fun vs H Q _ => ∃ (A : RA) (s : State) (t : Addr) (x y : Int), vs = [.ref A.a, .ref t] ∧ RoundAt CR H A s ∧ H t = some (.tup [.int x, .int y]) ∧
  Q (.bl (decide (0 ≤ x) && decide (y ≤ if s.left = [] then -1 else (s.top : Int)))) H
def spHasPlace (CR : Addr) : Sp := fun vs H Q _ => ∃ (A : RA) (s : State) (k : Int), vs = [.ref A.a, .int k] ∧ RoundAt CR H A s ∧ Q (.bl (decide (0 ≤ k) && decide (k ≤ (s.left.length : Int)))) H
def spIsOver (CR : Addr) : Sp := fun vs H Q _ => ∃ (A : RA) (s : State), vs = [.ref A.a] ∧ RoundAt CR H A s ∧ Q (.bl s.over) H
def spLies (CR : Addr) : Sp := fun vs H Q _ => ∃ (A : RA) (s : State) (t : Tile) (v : V), vs = [.ref A.a, v] ∧ RoundAt CR H A s ∧ TupAt H t v ∧ Q (.bl (!(hid s).contains t)) H
def endsV (s : State) : List V := match s.ends with
  | none => [.int (-1), .int (-1)]
  | some e => [nV e.1, nV e.2]
def spEnds (CR : Addr) : Sp := fun vs H Q _ => ∃ (A : RA) (s : State), vs = [.ref A.a] ∧ RoundAt CR H A s ∧ ∀ (H' : Hp) (p : Addr), Same H H' → H' p = some (.tup (endsV s)) → Q (.ref p) H'
def spFits (CR : Addr) : Sp := fun vs H Q _ => ∃ (A : RA) (s : State) (t : Tile) (v : V) (side : Nat), vs = [.ref A.a, v, nV side] ∧ side ≤ 1 ∧ RoundAt CR H A s ∧ TupAt H t v ∧ ∀ H' : Hp, Same H H' → Q (.bl (fitsSide s t side)) H'
def toldV (s : State) : List V := (Kg86.told s).map V.int
def spStands (CR : Addr) : Sp := fun vs H Q _ => ∃ (A : RA) (s : State), vs = [.ref A.a] ∧ RoundAt CR H A s ∧ s.left.length ≤ 4 ∧ ∀ (H' : Hp) (p : Addr), Same H H' → H p = none → H' p = some (.lst (toldV s)) → Q (.ref p) H'
def lackOf (s : State) (k : Nat) (t : Tile) : Bool := (s.lacks.getD k []).contains t.a || (s.lacks.getD k []).contains t.b
def spIsLacking (CR : Addr) : Sp := fun vs H Q _ => ∃ (A : RA) (s : State) (k : Nat) (t : Tile) (v : V), vs = [.ref A.a, nV k, v] ∧ RoundAt CR H A s ∧ TupAt H t v ∧ ∀ H' : Hp, Same H H' → Q (.bl (lackOf s k t)) H'
def spPlacesOf (CR : Addr) : Sp := fun vs H Q _ => ∃ (A : RA) (s : State) (t : Tile) (v : V), vs = [.ref A.a, v] ∧ Ok s ∧ RoundAt CR H A s ∧ TupAt H t v ∧ ∀ (H' : Hp) (p : Addr), Same H H' → H p = none → H' p = some (.lst (nsV (s.owners t))) → Q (.ref p) H'
section
variable {P : Program} {w : World} {K : PySem.W.Frag} {mg : Str → Option Value} {base : Heap} {CR : Addr} {f : Addr} {fd : FuncData}
theorem ok_has_tile (F : Fun K "has_tile" "Round.has_tile" s_r_has_tile f fd) (T : TxtR K mg CR) : FnOk P w K mg base CX0 1 f fd ["self", "tile"] (spHasTile CR) := by
  refine F.ok sc_r_has_tile (fun vs H Q E h => ?_) (fun cdv A outer s H vs Q E hr h => ?_)
  · obtain ⟨A, s, t, x, y, rfl, _⟩ := h
    rfl
  · obtain ⟨R, z, t, x, y, rfl, ⟨kn, lk, sh, hkn, hlk, hsh, ra⟩, ht, k⟩ := h
    refine ⟨_, pss_one (ps_ret (pe_and (pe_cmpR op_le pe_int (pe_ix ix_tup (pv 1) pe_int (fun _ _ => rfl)) (nomark _))
      (pe_one (pe_cmpR op_le (pe_ix ix_tup (pv 1) pe_int (fun _ _ => rfl)) (pe_fld (pv 0) rfl) (nomark _))))), ?_⟩
    refine ⟨_, rfl, t, _, 0, .int x, rfl, rfl, SqT.of ht, rfl, 0, x, rfl, rfl, _, rfl, ?_⟩
    by_cases c : (0 : Int) ≤ x
    · rw [decide_eq_true c] at k ⊢
      refine iteT ⟨_, rfl, t, _, 1, .int y, rfl, rfl, SqT.of ht, rfl, _, rfl, R.a, CR, R.dx, _, _, rfl, ra.ins, T.cl, T.greatest, rF_greatest, _, _, rfl, rfl, ?_⟩
      rw [Bool.true_and] at k
      exact k
    · rw [decide_eq_false c] at k ⊢
      exact iteF k
theorem ok_has_place (F : Fun K "has_place" "Round.has_place" s_r_has_place f fd) (T : TxtR K mg CR) : FnOk P w K mg base CX0 1 f fd ["self", "place"] (spHasPlace CR) := by
  refine F.ok sc_r_has_place (fun vs H Q E h => ?_) (fun cdv A outer s H vs Q E hr h => ?_)
  · obtain ⟨A, s, k, rfl, _⟩ := h
    rfl
  · obtain ⟨R, z, k, rfl, ⟨kn, lk, sh, hkn, hlk, hsh, ra⟩, q⟩ := h
    refine ⟨_, pss_one (ps_ret (pe_chain op_le op_le pe_int (pv 1) (pe_fld (pv 0) rfl))), ?_⟩
    refine ⟨_, rfl, 0, k, rfl, rfl, _, rfl, ?_⟩
    by_cases c : (0 : Int) ≤ k
    · rw [decide_eq_true c] at q ⊢
      refine iteT ⟨_, rfl, R.a, CR, R.dx, _, _, rfl, ra.ins, T.cl, T.players, rF_players, _, _, rfl, rfl, ?_⟩
      rw [Bool.true_and] at q
      exact q
    · rw [decide_eq_false c] at q ⊢
      exact iteF q
theorem ok_is_over (F : Fun K "is_over" "Round.is_over" s_r_is_over f fd) (T : TxtR K mg CR) : FnOk P w K mg base CX0 1 f fd ["self"] (spIsOver CR) := by
  refine F.ok sc_r_is_over (fun vs H Q E h => ?_) (fun cdv A outer s H vs Q E hr h => ?_)
  · obtain ⟨A, s, rfl, _⟩ := h
    rfl
  · obtain ⟨R, z, rfl, ⟨kn, lk, sh, hkn, hlk, hsh, ra⟩, q⟩ := h
    refine ⟨_, pss_one (ps_ret (pe_cmpR op_lt (pe_fld (pv 0) rfl) pe_int (nomark _))), ?_⟩
    refine ⟨_, rfl, R.a, CR, R.dx, _, _, rfl, ra.ins, T.cl, T.turn, rF_turn, _, _, rfl, rfl, ?_⟩
    have e : decide ((rawOf z kn lk sh).turn < 0) = z.over := by
      show decide ((if z.over = true then (-1 : Int) else (z.who : Int)) < 0) = z.over
      cases z.over
      · rw [if_neg Bool.false_ne_true]
        exact decide_eq_false (by omega)
      · rfl
    show Q (.bl (decide ((rawOf z kn lk sh).turn < 0))) H
    rw [e]
    exact q
theorem ok_lies (F : Fun K "lies" "Round.lies" s_r_lies f fd) (T : TxtR K mg CR) : FnOk P w K mg base CX0 1 f fd ["self", "tile"] (spLies CR) := by
  refine F.ok sc_r_lies (fun vs H Q E h => ?_) (fun cdv A outer s H vs Q E hr h => ?_)
  · obtain ⟨A, s, t, v, rfl, _⟩ := h
    rfl
  · obtain ⟨R, z, t, v, rfl, ⟨kn, lk, sh, hkn, hlk, hsh, ra⟩, ht, q⟩ := h
    have hu : (A.deeper (envOfC "Round.lies" (defScope s_r_lies) s.heap.objs.size f cdv)).units + 65 < cLine := by have := hr.un; omega
    refine ⟨_, pss_one (ps_ret (pe_cmpR (op_notInD hu) (pv 1) (pe_fld (pv 0) rfl) (by rfl))), ?_⟩
    obtain ⟨hv, hh, htl⟩ := ra.hd
    refine ⟨_, rfl, _, rfl, R.a, CR, R.dx, _, _, rfl, ra.ins, T.cl, T.hidden, rF_hidden, tileD t, (hid z).map tileD, dp_tile ht, .lst (SqL.of hh) (dp_tiles htl), tileD_shaped t, tilesD_shaped _, ?_⟩
    rw [any_tile]
    exact q
theorem pairs_get {H : Hp} {vs : List V} {l : List (Nat × Nat)} (h : PairsAt H vs l) {i : Nat} {x : Nat × Nat} (hx : l[i]? = some x) : ∃ p, vs[i]? = some (V.ref p) ∧ H p = some (.tup (pairV x)) := by
  have len := Paired.length h
  have hi : i < l.length := (List.getElem?_eq_some_iff.mp hx).1
  have hv : vs[i]? = some (vs[i]'(by omega)) := List.getElem?_eq_getElem _
  obtain ⟨y, hy, p, e, hp⟩ := paired_get h hv
  rw [hx] at hy
  cases Option.some.inj hy
  exact ⟨p, by rw [hv, e], hp⟩
theorem ok_ends (F : Fun K "ends" "Round.ends" s_r_ends f fd) (T : TxtR K mg CR) : FnOk P w K mg base CX0 1 f fd ["self"] (spEnds CR) := by
  refine F.ok sc_r_ends (fun vs H Q E h => ?_) (fun cdv A outer s H vs Q E hr h => ?_)
  · obtain ⟨A, s, rfl, _⟩ := h
    rfl
  · obtain ⟨R, z, rfl, ⟨kn, lk, sh, hkn, hlk, hsh, ra⟩, q⟩ := h
    refine ⟨_, pss_cons (ps_if (pt_cmpR op_eq (pe_callB call_len_seq (by rfl) T.len PySem.boot_len (pa_cons (pe_fld (pv 0) rfl) pa_nil)) pe_int (nomark _))
        (pss_one (ps_ret (pe_tup (pa_cons (pe_un un_neg pe_int) (pa_cons (pe_un un_neg pe_int) pa_nil))))) pss_nil)
      (pss_one (ps_ret (pe_tup (pa_cons (pe_ix ix_tup (pe_ix ix_list (pe_fld (pv 0) rfl) pe_int (fun _ _ => rfl)) pe_int (fun _ _ => rfl))
        (pa_cons (pe_ix ix_tup (pe_ix ix_list (pe_fld (pv 0) rfl) (pe_un un_neg pe_int) (fun _ _ => rfl)) pe_int (fun _ _ => rfl)) pa_nil))))), ?_⟩
    obtain ⟨lv, hln, hpl⟩ := ra.ln
    have hlen : lv.length = z.line.length := Paired.length hpl
    refine ⟨_, rfl, R.a, CR, R.dx, _, _, rfl, ra.ins, T.cl, T.line, rF_line, R.ln, lv, rfl, .inl (SqL.of hln), rfl, _, rfl, ?_⟩
    refine ite2 (fun c => ?_) (fun c => ?_)
    · have e0 : lv.length = 0 := by
        have := of_decide_eq_true c
        injection this with this
        omega
      have el : z.line = [] := List.eq_nil_of_length_eq_zero (by omega)
      refine ⟨1, rfl, 1, rfl, by show 2 ≤ sizeLine; decide, fun p hp => ?_⟩
      refine q _ p (same_new hp) ?_
      rw [upd_same]
      unfold endsV
      rw [ends_none.mpr el]
    · have ne : z.line ≠ [] := fun e => c (decide_eq_true (by rw [hlen, e]; rfl))
      cases he : z.ends with
      | none => exact absurd (ends_none.mp he) ne
      | some e =>
        obtain ⟨⟨x, rx, h1, h2⟩, ⟨y, ry, h3, h4⟩⟩ := ends_mem he
        obtain ⟨p1, v1, t1⟩ := pairs_get hpl (i := 0) (x := x) (by show z.line[0]? = _; rw [h1]; rfl)
        obtain ⟨p2, v2, t2⟩ := pairs_get hpl (i := ry.length) (x := y) (by show z.line[ry.length]? = _; rw [h3]; simp)
        have last : atI lv (-1) = some (V.ref p2) := by
          have hl2 : lv.length = ry.length + 1 := by rw [hlen, h3]; simp
          have : lv = lv.take ry.length ++ [V.ref p2] := by
            rw [← take_snoc v2, List.take_of_length_le (by omega)]
          rw [this]
          exact atI_last _ _
        refine ⟨_, rfl, R.a, CR, R.dx, _, _, rfl, ra.ins, T.cl, T.line, rF_line, R.ln, lv, 0, _, rfl, rfl, SqL.of hln, atI_nat v1, p1, _, 0, _, rfl, rfl, SqT.of t1, (rfl : atI (pairV x) 0 = some (nV x.1)), ?_⟩
        refine ⟨_, rfl, R.a, CR, R.dx, _, _, rfl, ra.ins, T.cl, T.line, rF_line, 1, rfl, R.ln, lv, -1, _, rfl, rfl, SqL.of hln, last, p2, _, 1, _, rfl, rfl, SqT.of t2, (rfl : atI (pairV y) 1 = some (nV y.2)), ?_⟩
        refine ⟨by show 2 ≤ sizeLine; decide, fun p hp => ?_⟩
        refine q _ p (same_new hp) ?_
        rw [upd_same]
        unfold endsV
        rw [he]
        show some (HO.tup [nV x.1, nV y.2]) = some (HO.tup [nV e.1, nV e.2])
        rw [h2, h4]
end
end Dm
/-! ## DmAsk -/
/-! What is asked of a round: fits, stands, is_lacking, places_of, deals and their like. -/
namespace Dm
open PySem PySem.Spec PyProof.Rows L2
open Kg86 (Tile full State)
section
variable {P : Program} {w : World} {K : PySem.W.Frag} {mg : Str → Option Value} {base : Heap} {CR : Addr} {f : Addr} {fd : FuncData}
theorem ok_fits (F : Fun K "fits" "Round.fits" s_r_fits f fd) (T : TxtR K mg CR) (M : HasM P w K mg base CR "ends" 1 ["self"] (spEnds CR)) : FnOk P w K mg base CX0 2 f fd ["self", "tile", "side"] (spFits CR) := by
  obtain ⟨f1, fd1, m1, G1, b1⟩ := M
  refine F.ok sc_r_fits (fun vs H Q E h => ?_) (fun cdv A outer s H vs Q E hr h => ?_)
  · obtain ⟨A, s, t, v, side, rfl, _⟩ := h
    rfl
  · obtain ⟨R, z, t, v, side, rfl, hside, rat, ht, q⟩ := h
    have hr1 : Room 1 _ := hr.mono (by decide)
    refine ⟨_, pss_one (ps_ret (pe_or (pe_cmpR op_eq (pe_callB call_len_seq (by rfl) T.len PySem.boot_len (pa_cons (pe_fld (pv 0) rfl) pa_nil)) pe_int (nomark _))
      (pe_one (pe_cmpR op_in_seq (pe_ix ix_tup (pe_meth0 (pv 0) T.cl m1 G1 hr1 b1 .nil pass0) (pv 2) (fun _ _ => rfl)) (pv 1) (by rfl))))), ?_⟩
    obtain ⟨kn, lk, sh, hkn, hlk, hsh, ra⟩ := id rat
    obtain ⟨lv, hln, hpl⟩ := ra.ln
    have hlen : lv.length = z.line.length := Paired.length hpl
    refine ⟨_, rfl, R.a, CR, R.dx, _, _, rfl, ra.ins, T.cl, T.line, rF_line, R.ln, lv, rfl, .inl (SqL.of hln), rfl, _, rfl, ?_⟩
    refine ite2 (fun c => ?_) (fun c => ?_)
    · have e0 : lv.length = 0 := by
        have := of_decide_eq_true c
        injection this with this
        omega
      have el : z.line = [] := List.eq_nil_of_length_eq_zero (by omega)
      have g := q H (Same.refl H)
      have e : fitsSide z t side = true := by
        unfold fitsSide endOf
        rw [ends_none.mpr el]
        rfl
      rw [e] at g
      exact g
    · have ne : z.line ≠ [] := fun e => c (decide_eq_true (by rw [hlen, e]; rfl))
      refine ⟨_, rfl, R.a, R.dx, _, rfl, ra.ins, rF_no_ends, R, z, rfl, rat, fun H1 p s1 hp => ?_⟩
      cases he : z.ends with
      | none => exact absurd (ends_none.mp he) ne
      | some e =>
        have hp' : H1 p = some (.tup [nV e.1, nV e.2]) := by
          rw [hp]
          unfold endsV
          rw [he]
        have at_ : atI [nV e.1, nV e.2] (side : Int) = some (nV (if side = 0 then e.1 else e.2)) := by
          rcases (by omega : side = 0 ∨ side = 1) with w | w <;> subst w <;> rfl
        obtain ⟨tp, rfl, htp⟩ := ht
        refine ⟨_, rfl, p, _, _, _, rfl, rfl, SqT.of hp', at_, _, rfl, tp, _, rfl, .inr (SqT.of (s1 _ _ htp)), rfl, rfl, ?_⟩
        have g := q H1 s1
        have e2 : fitsSide z t side = inV (nV (if side = 0 then e.1 else e.2)) (tileV t) := by
          unfold fitsSide endOf
          rw [he]
          show (t.a == _ || t.b == _) = (eqV (nV t.a) _ || (eqV (nV t.b) _ || false))
          have beqn : ∀ a b : Nat, eqV (nV a) (nV b) = (a == b) := fun a b => by
            show ((a : Int) == (b : Int)) = (a == b)
            by_cases w : a = b
            · subst w
              simp
            · rw [beq_eq_false_iff_ne.mpr w]
              exact beq_eq_false_iff_ne.mpr (by omega)
          rw [beqn, beqn, Bool.or_false]
        rw [e2] at g
        exact g
theorem cut_pre (xs : List V) (n : Nat) (h : n ≤ xs.length) : cutV xs none (some (n : Int)) = xs.take n := by
  unfold cutV
  rw [HT.sIx_none, HT.sIx_nat, Nat.min_eq_left h]
  simp
theorem ok_stands (F : Fun K "stands" "Round.stands" s_r_stands f fd) (T : TxtR K mg CR) (M : HasM P w K mg base CR "ends" 1 ["self"] (spEnds CR)) : FnOk P w K mg base CX0 2 f fd ["self"] (spStands CR) := by
  obtain ⟨f1, fd1, m1, G1, b1⟩ := M
  refine F.ok sc_r_stands (fun vs H Q E h => ?_) (fun cdv A outer s H vs Q E hr h => ?_)
  · obtain ⟨A, s, rfl, _⟩ := h
    rfl
  · obtain ⟨R, z, rfl, rat, few, q⟩ := h
    have hr1 : Room 1 _ := hr.mono (by decide)
    refine ⟨_, pss_cons (ps_asg (pe_meth0 (pv 0) T.cl m1 G1 hr1 b1 .nil pass0) (pg_tup (by rfl) (pgs_cons (pg_name (i := 1) sc_r_stands.nd rfl (Or.inl rfl)) (pgs_cons (pg_name (i := 2) sc_r_stands.nd rfl (Or.inl rfl)) pgs_nil))))
      (pss_one (ps_ret (pe_op op_cat (pe_lst (pa_cons (pe_fld (pv 0) rfl) (pa_cons (pv 1) (pa_cons (pv 2) pa_nil)))) (pe_slice sl_list (pe_fld (pv 0) rfl) po_none (po_some (pe_fld (pv 0) rfl)))))), ?_⟩
    obtain ⟨kn, lk, sh, hkn, hlk, hsh, ra⟩ := id rat
    refine ⟨_, rfl, R.a, R.dx, _, rfl, ra.ins, rF_no_ends, R, z, rfl, rat, fun H1 p s1 hp => ?_⟩
    obtain ⟨e1, e2, hev⟩ : ∃ e1 e2, endsV z = [e1, e2] := by
      unfold endsV
      cases z.ends with
      | none => exact ⟨_, _, rfl⟩
      | some e => exact ⟨_, _, rfl⟩
    rw [hev] at hp
    refine ⟨p, [e1, e2], rfl, SqT.of hp, rfl, e1, [e2], rfl, e2, [], rfl, rfl, ?_⟩
    refine ⟨_, rfl, R.a, CR, R.dx, _, _, rfl, s1 _ _ ra.ins, T.cl, T.turn, rF_turn, _, rfl, _, rfl, by show 3 ≤ sizeLine; decide, fun l hl => ?_⟩
    have s2 := s1.trans (same_new (o := .lst [.int (rawOf z kn lk sh).turn, e1, e2]) hl)
    refine ⟨_, rfl, R.a, CR, R.dx, _, _, rfl, s2 _ _ ra.ins, T.cl, T.room, rF_room, _, rfl, R.a, CR, R.dx, _, _, rfl, s2 _ _ ra.ins, T.cl, T.players, rF_players, _, rfl, R.rm, nsV z.caps, rfl, SqL.of (s2 _ _ ra.rm), fun m hm => ?_⟩
    have ec : cutV (nsV z.caps) none (some ((z.left.length : Nat) : Int)) = nsV z.left := by
      rw [cut_pre _ _ (by rw [nsV_len, caps_len]; omega)]
      unfold nsV State.caps
      rw [List.map_append, List.take_left' (List.length_map _)]
    have ec' : cutV (nsV z.caps) none (some (rawOf z kn lk sh).players) = nsV z.left := ec
    rw [ec']
    have nlm : l ≠ m := ne_of_none upd_same hm
    refine ⟨l, m, _, _, rfl, rfl, by rw [upd_ne nlm]; exact upd_same, upd_same, ?_, fun r hr => ?_⟩
    · rw [nsV_len]
      have : (3 : Nat) + z.left.length ≤ 100 := by omega
      exact Nat.le_trans this (by decide)
    · refine q _ r ((s2.trans (same_new hm)).trans (same_new hr)) ?_ ?_
      · have h1 := same_free (same_new hm) hr
        have h2 := same_free (same_new hl) h1
        exact same_free s1 h2
      · rw [upd_same]
        unfold toldV Kg86.told Kg86.endsTold Kg86.whole
        unfold endsV at hev
        cases he : z.ends with
        | none =>
          rw [he] at hev
          injection hev with q1 q2
          injection q2 with q2 _
          subst q1 q2
          show some (HO.lst ([V.int _, V.int (-1), V.int (-1)] ++ nsV z.left)) = some (HO.lst (V.int _ :: V.int (-1) :: V.int (-1) :: (z.left.map fun (n : Nat) => (n : Int)).map V.int))
          rw [List.map_map]
          rfl
        | some e =>
          rw [he] at hev
          injection hev with q1 q2
          injection q2 with q2 _
          subst q1 q2
          show some (HO.lst ([V.int _, nV e.1, nV e.2] ++ nsV z.left)) = some (HO.lst (V.int _ :: V.int e.1 :: V.int e.2 :: (z.left.map fun (n : Nat) => (n : Int)).map V.int))
          rw [List.map_map]
          rfl
theorem lk_get {lk : List (List Key × V)} {lacks : List (List Nat)} (h : LkRel lk lacks) (k n : Nat) : (valV lk (keyN [k, n])).isSome = (lacks.getD k []).contains n := h.val k n
theorem ok_is_lacking (F : Fun K "is_lacking" "Round.is_lacking" s_r_is_lacking f fd) (T : TxtR K mg CR) : FnOk P w K mg base CX0 1 f fd ["self", "place", "tile"] (spIsLacking CR) := by
  refine F.ok sc_r_is_lacking (fun vs H Q E h => ?_) (fun cdv A outer s H vs Q E hr h => ?_)
  · obtain ⟨A, s, k, t, v, rfl, _⟩ := h
    rfl
  · obtain ⟨R, z, k, t, v, rfl, ⟨kn, lk, sh, hkn, hlk, hsh, ra⟩, ⟨tp, rfl, htp⟩, q⟩ := h
    have hu := hu_of hr
    refine ⟨_, pss_one (ps_ret (pe_or (pe_cmp (pc_din hu (pe_tup (pa_cons (pv 1) (pa_cons (pe_ix ix_tup (pv 2) pe_int (fun _ _ => rfl)) pa_nil))) (pe_fld (pv 0) rfl)) rfl)
      (pe_one (pe_cmp (pc_din hu (pe_tup (pa_cons (pv 1) (pa_cons (pe_ix ix_tup (pv 2) pe_int (fun _ _ => rfl)) pa_nil))) (pe_fld (pv 0) rfl)) rfl)))), ?_⟩
    have a0 : atI (tileV t) 0 = some (nV t.a) := rfl
    have a1 : atI (tileV t) 1 = some (nV t.b) := rfl
    refine ⟨_, rfl, _, rfl, tp, _, 0, _, rfl, rfl, SqT.of htp, a0, by show 2 ≤ sizeLine; decide, fun p hp => ?_⟩
    have s1 := same_new (o := .tup [nV k, nV t.a]) hp
    refine ⟨_, rfl, R.a, CR, R.dx, _, _, rfl, s1 _ _ ra.ins, T.cl, T.lacks, rF_lacks, R.lk, _, rfl, .inr ⟨_, keyN [k, t.a], p, .inl (s1 _ _ ra.lk), rfl, upd_same, rfl⟩, _, rfl, ?_⟩
    show if (valV lk (keyN [k, t.a])).isSome = true then _ else _
    rw [lk_get hlk]
    by_cases c : (z.lacks.getD k []).contains t.a = true
    · rw [if_pos c]
      have g := q _ s1
      unfold lackOf at g
      rw [c] at g
      exact g
    · rw [if_neg c]
      refine ⟨_, rfl, _, rfl, tp, _, 1, _, rfl, rfl, SqT.of (s1 _ _ htp), a1, by show 2 ≤ sizeLine; decide, fun p2 hp2 => ?_⟩
      have s2 := s1.trans (same_new (o := .tup [nV k, nV t.b]) hp2)
      refine ⟨_, rfl, R.a, CR, R.dx, _, _, rfl, s2 _ _ ra.ins, T.cl, T.lacks, rF_lacks, R.lk, _, rfl, .inr ⟨_, keyN [k, t.b], p2, .inl (s2 _ _ ra.lk), rfl, upd_same, rfl⟩, ?_⟩
      have g := q _ s2
      unfold lackOf at g
      rw [Bool.eq_false_iff.mpr c, Bool.false_or, ← lk_get hlk] at g
      exact g
theorem known_some {s : State} {kn : List (List Key × V)} (h : KnRel kn s.known) (t : Tile) : (valV kn (tileK t)).isSome = (s.known.find? fun x => x.1 == t).isSome := by
  rw [h.val, Option.isSome_map]
theorem keep_by (s : State) (t : Tile) (i : Nat) (hi : i ≤ s.left.length) (hl : s.lacks.length = s.left.length) : (decide (i = s.players) || !((s.lacks.getD i []).contains t.a || (s.lacks.getD i []).contains t.b)) = !lackOf s i t := by
  unfold lackOf
  by_cases e : i = s.players
  · have : s.lacks.getD i [] = [] := by
      rw [List.getD_eq_getElem?_getD, List.getElem?_eq_none]
      · rfl
      · rw [hl, e]
        exact Nat.le_refl _
    rw [this, decide_eq_true e]
    rfl
  · rw [decide_eq_false e]
    rfl
theorem ok_places_of (F : Fun K "places_of" "Round.places_of" s_r_places_of f fd) (T : TxtR K mg CR) (M : HasM P w K mg base CR "is_lacking" 1 ["self", "place", "tile"] (spIsLacking CR)) :
    FnOk P w K mg base CX0 2 f fd ["self", "tile"] (spPlacesOf CR) := by
  obtain ⟨f1, fd1, m1, G1, b1⟩ := M
  refine F.ok sc_r_places_of (fun vs H Q E h => ?_) (fun cdv A outer s H vs Q E hr h => ?_)
  · obtain ⟨A, s, t, v, rfl, _⟩ := h
    rfl
  · obtain ⟨R, z, t, v, rfl, ok, rat, ⟨tp, rfl, htp⟩, q⟩ := h
    have hu := hu_of hr
    have hr1 : Room 1 _ := hr.mono (by decide)
    refine ⟨_, pss_cons (ps_if (pt_cmp (pc_din hu (pv 1) (pe_fld (pv 0) rfl))) (pss_one (ps_ret (pe_lst (pa_cons (pe_dget hu (pe_fld (pv 0) rfl) (pv 1) (fun _ _ => rfl)) pa_nil)))) pss_nil)
      (pss_one (ps_ret (pe_lc (own := [("place", 2)]) (g := gName 2) rfl sc_r_places_of.nd (pi_range1 rfl T.range (pa_cons (pe_op op_add (pe_fld (pv 0) rfl) pe_int) pa_nil)) (blkOk_by (own := [("place", 2)]) (N := ["self", "tile", "place"]) (sc := defScope s_r_places_of) (by decide +kernel))
        (fun _ _ _ _ _ => pg_name (i := 2) sc_r_places_of.nd rfl (Or.inl rfl))
        (fun _ _ _ _ _ => pts_one (pt_not (pt_val (pe_meth (pv 0) T.cl m1 G1 hr1 b1 .nil pass0 (pa_cons (pv 2) (pa_cons (pv 1) pa_nil))))))
        (fun _ _ _ _ _ => pv 2)))), ?_⟩
    obtain ⟨kn, lk, sh, hkn, hlk, hsh, ra⟩ := id rat
    have hkey : H tp = some (.tup ((tileK t).map kV)) := by
      unfold tileK
      rw [keyN_kV]
      exact htp
    refine ⟨_, rfl, _, rfl, R.a, CR, R.dx, _, _, rfl, ra.ins, T.cl, T.known, rF_known, R.kn, _, rfl, .inr ⟨kn, tileK t, tp, .inl ra.kn, rfl, hkey, rfl⟩, _, rfl, ?_⟩
    rw [known_some hkn]
    cases hf : z.known.find? fun x => x.1 == t with
    | some x =>
      refine iteT ⟨_, rfl, R.a, CR, R.dx, _, _, rfl, ra.ins, T.cl, T.known, rF_known, _, rfl, R.kn, nV x.2, rfl, .inr ⟨kn, tileK t, tp, .inl ra.kn, rfl, hkey, ?_⟩, by show 1 ≤ sizeLine; decide, fun p hp => ?_⟩
      · rw [hkn.val, hf]
        rfl
      · refine q _ p (same_new hp) hp ?_
        rw [upd_same, owners_eq, hf]
        rfl
    | none =>
      refine iteF ⟨_, rfl, R.a, CR, R.dx, _, _, rfl, ra.ins, T.cl, T.players, rF_players, _, _, rfl, rfl, _, rfl, ?_, ?_, ?_⟩
      · show -(2 ^ 62) ≤ ((z.left.length : Nat) : Int) + 1
        omega
      · show ((z.left.length : Nat) : Int) + 1 < 2 ^ 62
        have := ok.few.2
        omega
      intro D hD
      have nn : (((z.left.length : Nat) : Int) + 1).toNat = z.left.length + 1 := by omega
      show ∃ W : Nat → Nat → Hp → Prop, _
      refine lc_range (lo := 0) (n := (((z.left.length : Nat) : Int) + 1).toNat) (fun i H' => Same H H' ∧ H' D = some (.lst (nsV ((List.range i).filter fun k => !lackOf z k t))))
        ⟨same_new hD, upd_same⟩ ?_ ?_
      · rintro i H1 hi ⟨sm, hl⟩
        refine ⟨rfl, _, rfl, R.a, R.dx, _, rfl, sm _ _ ra.ins, rF_no_is_lacking, _, rfl, _, rfl, R, z, i, t, .ref tp, ?_, rat.same sm, ⟨tp, rfl, sm _ _ htp⟩, fun H2 s2 => ?_⟩
        · show [V.ref R.a, V.int (0 + (i : Int)), V.ref tp] = _
          rw [Int.zero_add]
          rfl
        · refine ⟨_, rfl, ?_⟩
          have step : (List.range (i + 1)).filter (fun k => !lackOf z k t) = (List.range i).filter (fun k => !lackOf z k t) ++ (if (!lackOf z i t) = true then [i] else []) := by
            rw [List.range_succ, List.filter_append]
            congr 1
            by_cases c : (!lackOf z i t) = true
            · rw [if_pos c]
              simp [List.filter_cons, c]
            · rw [if_neg c]
              simp [List.filter_cons, c]
          refine ite2 (c := (!lackOf z i t) = true) (fun c => ?_) (fun c => ?_)
          · rw [if_pos c] at step
            refine ⟨_, rfl, _, s2 _ _ hl, ?_, fun b o e => ?_, ?_⟩
            · have hlen : ((List.range i).filter fun k => !lackOf z k t).length ≤ 100 := by
                have := List.length_filter_le (fun k => !lackOf z k t) (List.range i)
                rw [List.length_range] at this
                have := ok.few.2
                omega
              rw [nsV_len]
              exact Nat.lt_of_le_of_lt hlen (by decide)
            · rw [upd_ne (ne_of_none e hD)]
              exact s2 _ _ (sm _ _ e)
            · rw [upd_same, step]
              unfold nsV
              rw [List.map_append]
              show some (HO.lst (_ ++ [V.int (0 + (i : Int))])) = some (HO.lst (_ ++ [V.int (i : Int)]))
              rw [Int.zero_add]
          · rw [if_neg c, List.append_nil] at step
            exact ⟨sm.trans s2, by rw [step]; exact s2 _ _ hl⟩
      · rintro H1 ⟨sm, hl⟩
        refine q H1 D sm hD ?_
        rw [hl, nn, owners_eq, hf]
        congr 3
        apply List.filter_congr
        intro k hk
        exact (keep_by z t k (Nat.lt_succ_iff.mp (List.mem_range.mp hk)) ok.lacks).symm
end
end Dm
/-! ## DmAsk2 -/
/-! Deals asked of a round. -/
namespace Dm
open PySem PySem.Spec PyProof.Rows L2
open Kg86 (Tile full State)
def spDeals (CR : Addr) : Sp := fun vs H Q _ => ∃ (A : RA) (s : State), vs = [.ref A.a] ∧ Ok s ∧ RoundAt CR H A s ∧ ∀ H' : Hp, Same H H' → Q (nV s.deals) H'
def spDealsBy (CR : Addr) : Sp := fun vs H Q _ => ∃ (A : RA) (s : State) (t : Tile) (v : V), vs = [.ref A.a, v] ∧ Ok s ∧ t ∈ s.unseen ∧ RoundAt CR H A s ∧ TupAt H t v ∧
  ∀ (H' : Hp) (p : Addr), Same H H' → H p = none → H' p = some (.lst (nsV ((List.range (s.players + 1)).map fun k => s.dealsWith t k))) → Q (.ref p) H'
def spDealsHand (CR : Addr) : Sp := fun vs H Q _ => ∃ (A : RA) (s : State) (k : Nat) (h : Addr) (hs : List V) (r : List Tile), vs = [.ref A.a, nV k, .ref h] ∧ Ok s ∧ RoundAt CR H A s ∧ H h = some (.lst hs) ∧ TilesAt H hs r ∧ ∀ H' : Hp, Same H H' → Q (nV (Kg86.ways (handed s r k) s.caps)) H'
def spDealsPass (CR : Addr) : Sp := fun vs H Q _ => ∃ (A : RA) (s : State) (e : Nat × Nat), vs = [.ref A.a] ∧ Ok s ∧ s.over = false ∧ RoundAt CR H A s ∧ s.ends = some e ∧ ∀ H' : Hp, Same H H' → Q (nV (Kg86.ways (passed s e) s.caps)) H'
theorem map_snoc {α β : Type} {l : List α} {i : Nat} {x : α} (g : α → β) (h : l[i]? = some x) : (l.take (i + 1)).map g = (l.take i).map g ++ [g x] := by
  rw [take_snoc h, List.map_append]
  rfl
theorem fit_all {s : State} (h : Ok s) {choices : List (List Nat)} (hl : choices.length = s.unseen.length) (hk : ∀ o ∈ choices, ∀ k ∈ o, k ≤ s.left.length) : FitAll choices s.caps 0 where
  sum := by rw [h.sum, hl, Nat.add_zero]
  small := h.size
  short := by
    rw [caps_len]
    have := h.few.2
    omega
  there := fun o ho k hk2 => by
    rw [caps_len]
    exact Nat.lt_succ_of_le (hk o ho k hk2)
theorem choices_small {H : Hp} {vs : List V} {cs : List (List Nat)} (h : ChoicesAt H vs cs) {s : State} (ok : Ok s) (hl : cs.length ≤ s.unseen.length) : vs.length < sizeLine := by
  have e : vs.length = cs.length := Paired.length h
  have := unseen_short (s := s) ok.top
  have z : vs.length < 100 := by omega
  exact Nat.lt_of_lt_of_le z (by decide)
/-- one list more -/
theorem choices_more {H H' : Hp} {D : Addr} {acc : List V} {cs : List (List Nat)} {p : Addr} {o : List Nat} (h : ChoicesAt H acc cs) (hD : H D = some (.lst acc)) (nots : ∀ v ∈ acc, v ≠ V.ref D) (hp : H p = some (.lst (nsV o))) (npD : p ≠ D) (s : Same H H') :
    ChoicesAt (upd H' D (.lst (acc ++ [.ref p]))) (acc ++ [.ref p]) (cs ++ [o]) := by
  refine Paired.snoc ?_ ⟨p, rfl, by rw [upd_ne npD]; exact s _ _ hp⟩
  have gen : ∀ {vs : List V} {m : List (List Nat)}, ChoicesAt H vs m → (∀ v ∈ vs, v ≠ V.ref D) → ChoicesAt (upd H' D (.lst (acc ++ [.ref p]))) vs m := by
    intro vs m q
    induction q with
    | nil => intro _; exact .nil
    | @cons v o2 vs2 m2 hq t ih =>
      intro n
      obtain ⟨b, e, hb⟩ := hq
      refine .cons ⟨b, e, ?_⟩ (ih fun v hv => n v (List.mem_cons.mpr (.inr hv)))
      rw [upd_ne]
      · exact s _ _ hb
      · intro z
        exact n v (List.mem_cons.mpr (.inl rfl)) (by rw [e, z])
  exact gen h nots
section
variable {P : Program} {w : World} {K : PySem.W.Frag} {mg : Str → Option Value} {base : Heap} {CR : Addr} {f : Addr} {fd : FuncData}
theorem ok_deals (F : Fun K "deals" "Round.deals" s_r_deals f fd) (T : TxtR K mg CR) (M : HasM P w K mg base CR "places_of" 2 ["self", "tile"] (spPlacesOf CR)) (C : HasF P w K mg base "count_deals" 3 ["choices", "room"] (spCount K)) :
    FnOk P w K mg base CX0 4 f fd ["self"] (spDeals CR) := by
  obtain ⟨f1, fd1, m1, G1, b1⟩ := M
  obtain ⟨f2, fd2, m2, kp2, G2, b2⟩ := C
  refine F.ok sc_r_deals (fun vs H Q E h => ?_) (fun cdv A outer s H vs Q E hr h => ?_)
  · obtain ⟨A, s, rfl, _⟩ := h
    rfl
  · obtain ⟨R, z, rfl, ok, rat, q⟩ := h
    have hr1 : Room 2 _ := hr.mono (by decide)
    have hr3 : Room 3 _ := hr.mono (by decide)
    refine ⟨_, pss_one (ps_ret (pe_call G2 hr3 rfl m2 kp2 b2 .nil pass0 (pa_cons
      (pe_lc (own := [("tile", 1)]) (g := gName 1) rfl sc_r_deals.nd (pi_list (pe_fld (pv 0) rfl)) (blkOk_by (own := [("tile", 1)]) (N := ["self", "tile"]) (sc := defScope s_r_deals) (by decide +kernel))
        (fun _ _ _ _ _ => pg_name (i := 1) sc_r_deals.nd rfl (Or.inl rfl)) (fun _ _ _ _ _ => pts_nil)
        (fun _ _ _ _ _ => pe_meth (pv 0) T.cl m1 G1 hr1 b1 .nil pass0 (pa_cons (pv 1) pa_nil)))
      (pa_cons (pe_fld (pv 0) rfl) pa_nil)))), ?_⟩
    obtain ⟨kn, lk, sh, hkn, hlk, hsh, ra⟩ := id rat
    obtain ⟨hv, hh, htl⟩ := ra.hd
    refine ⟨_, rfl, R.a, CR, R.dx, _, _, rfl, ra.ins, T.cl, T.hidden, rF_hidden, R.hd, rfl, ⟨hv, SqL.of hh⟩, fun D hD => ?_⟩
    have htl' : TilesAt H hv z.unseen := by
      rw [← ok.hid]
      exact htl
    have hlen : hv.length = z.unseen.length := Paired.length htl'
    refine lc_list (K := K) (a := R.hd) (xs := hv) (fun i H' => Same H H' ∧ ∃ acc, H' D = some (.lst acc) ∧ ChoicesAt H' acc ((z.unseen.take i).map z.owners) ∧ ∀ v ∈ acc, v ≠ V.ref D)
      ⟨same_new hD, [], upd_same, .nil, fun v hv => absurd hv (by simp)⟩ (fun i H' _ hp => SqL.of (hp.1 _ _ hh)) ?_ ?_
    · rintro i x H1 hx ⟨sm, acc, hacc, hch, nots⟩
      obtain ⟨t, ht, htp⟩ := paired_get (htl'.same sm) hx
      refine ⟨rfl, ?_⟩
      refine ⟨_, rfl, R.a, R.dx, _, rfl, sm _ _ ra.ins, rF_no_places_of, _, rfl, R, z, t, x, rfl, ok, rat.same sm, htp, fun H2 p s2 hp0 hp => ?_⟩
      have npD : p ≠ D := fun e => by rw [e, hacc] at hp0; cases hp0
      refine ⟨acc, s2 _ _ hacc, choices_small hch ok (by rw [List.length_map]; exact List.length_take_le' _ _), fun b o e => ?_, acc ++ [.ref p], upd_same, ?_, ?_⟩
      · rw [upd_ne (ne_of_none e hD)]
        exact s2 _ _ (sm _ _ e)
      · rw [map_snoc z.owners ht]
        exact choices_more (hch.same s2) (s2 _ _ hacc) nots hp npD (Same.refl H2)
      · intro v hv
        rcases List.mem_append.mp hv with m | m
        · exact nots v m
        · rw [List.mem_singleton.mp m]
          intro e
          injection e with e
          exact npD e
    · rintro H1 ⟨sm, acc, hacc, hch, _⟩
      rw [hlen, List.take_length] at hch
      refine ⟨_, rfl, R.a, CR, R.dx, _, _, rfl, sm _ _ ra.ins, T.cl, T.room, rF_room, D, R.rm, acc, _, z.caps, rfl, hacc, hch, sm _ _ ra.rm, fit_all ok (List.length_map _) ?_, fun H2 s2 => ?_⟩
      · intro o ho k hk
        obtain ⟨t, _, rfl⟩ := List.mem_map.mp ho
        exact owners_le ok hk
      · rw [← ok.deals_count]
        exact q H2 (sm.trans s2)
theorem others_len {s : State} (h : Ok s) {t : Tile} (ht : t ∈ s.unseen) : s.caps.sum = (othersOf s t).length + 1 := by
  obtain ⟨a, b, e1, e2, ha, hb⟩ := mem_split ht (unseen_nodup h.top)
  have fl : s.unseen.filter (fun x => x != t) = a ++ b := by rw [← e2, (unseen_nodup h.top).erase_eq_filter]
  rw [h.sum, e1]
  unfold othersOf
  rw [fl]
  simp
  omega
theorem fit_one {s : State} (h : Ok s) {t : Tile} (ht : t ∈ s.unseen) : FitAll (othersOf s t) s.caps 1 where
  sum := others_len h ht
  small := h.size
  short := by
    rw [caps_len]
    have := h.few.2
    omega
  there := fun o ho k hk => by
    obtain ⟨x, _, rfl⟩ := List.mem_map.mp ho
    rw [caps_len]
    exact Nat.lt_succ_of_le (owners_le h hk)
theorem ok_deals_by (F : Fun K "deals_by_place" "Round.deals_by_place" s_r_deals_by_place f fd) (T : TxtR K mg CR) (M : HasM P w K mg base CR "places_of" 2 ["self", "tile"] (spPlacesOf CR)) (C : HasF P w K mg base "count_by_place" 3 ["others", "places", "room"] (spByPlace K)) :
    FnOk P w K mg base CX0 4 f fd ["self", "tile"] (spDealsBy CR) := by
  obtain ⟨f1, fd1, m1, G1, b1⟩ := M
  obtain ⟨f2, fd2, m2, kp2, G2, b2⟩ := C
  refine F.ok sc_r_deals_by_place (fun vs H Q E h => ?_) (fun cdv A outer s H vs Q E hr h => ?_)
  · obtain ⟨A, s, t, v, rfl, _⟩ := h
    rfl
  · obtain ⟨R, z, t, v, rfl, ok, hun, rat, ht, q⟩ := h
    have hr1 : Room 2 _ := hr.mono (by decide)
    have hr3 : Room 3 _ := hr.mono (by decide)
    have hu : (A.deeper (envOfC "Round.deals_by_place" (defScope s_r_deals_by_place) s.heap.objs.size f cdv)).units + 64 < cLine := by have := hr.un; omega
    refine ⟨_, pss_cons (ps_setLc (i := 2) (own := [("hidden", 3)]) (g := gName 3) (tt := tTest (tOp (rNeD K) (tVar 3) (tVar 1))) rfl sc_r_deals_by_place.nd rfl rfl (sw_true rfl rfl rfl (by decide +kernel)) (pi_list (pe_fld (pv 0) rfl))
          (blkOk_by (own := [("hidden", 3)]) (N := ["self", "tile", "others", "hidden"]) (sc := defScope s_r_deals_by_place) (by decide +kernel))
          (fun _ _ _ _ _ => pg_name (i := 3) sc_r_deals_by_place.nd rfl (Or.inl rfl)) (fun _ _ _ _ _ => pts_one (pt_cmpR (r := rNeD K) (op_neD (X := Cx.blk _ _ _ _ _ _) hu) (pv 3) (pv 1) (nomark _)))
          (fun _ _ _ _ _ => pe_meth (pv 0) T.cl m1 G1 hr1 b1 .nil pass0 (pa_cons (pv 3) pa_nil)))
      (pss_one (ps_ret (pe_call G2 hr3 rfl m2 kp2 b2 .nil pass0 (pa_cons (pv 2) (pa_cons (pe_meth (pv 0) T.cl m1 G1 hr1 b1 .nil pass0 (pa_cons (pv 1) pa_nil)) (pa_cons (pe_fld (pv 0) rfl) pa_nil)))))), ?_⟩
    obtain ⟨kn, lk, sh, hkn, hlk, hsh, ra⟩ := id rat
    obtain ⟨hv, hh, htl⟩ := ra.hd
    refine ⟨_, rfl, R.a, CR, R.dx, _, _, rfl, ra.ins, T.cl, T.hidden, rF_hidden, R.hd, rfl, ⟨hv, SqL.of hh⟩, fun D hD => ?_⟩
    have htl' : TilesAt H hv z.unseen := by
      rw [← ok.hid]
      exact htl
    have hlen : hv.length = z.unseen.length := Paired.length htl'
    refine lc_list (K := K) (a := R.hd) (xs := hv) (fun i H' => Same H H' ∧ ∃ acc, H' D = some (.lst acc) ∧ ChoicesAt H' acc (((z.unseen.take i).filter fun x => x != t).map z.owners) ∧ ∀ v ∈ acc, v ≠ V.ref D)
      ⟨same_new hD, [], upd_same, .nil, fun v hv => absurd hv (by simp)⟩ (fun i H' _ hp => SqL.of (hp.1 _ _ hh)) ?_ ?_
    · rintro i x H1 hx ⟨sm, acc, hacc, hch, nots⟩
      obtain ⟨u, hu2, hup⟩ := paired_get (htl'.same sm) hx
      have ht1 : TupAt H1 t v := by
        obtain ⟨tp, e, hp⟩ := ht
        exact ⟨tp, e, sm _ _ hp⟩
      have step : ((z.unseen.take (i + 1)).filter fun x => x != t).map z.owners = ((z.unseen.take i).filter fun x => x != t).map z.owners ++ (if (u != t) = true then [z.owners u] else []) := by
        rw [take_snoc hu2, List.filter_append, List.map_append]
        congr 1
        by_cases w : (u != t) = true
        · have e : [u].filter (fun x => x != t) = [u] := List.filter_cons_of_pos (p := fun x => x != t) w
          rw [if_pos w, e]
          rfl
        · have e : [u].filter (fun x => x != t) = [] := List.filter_cons_of_neg (p := fun x => x != t) w
          rw [if_neg w, e]
          rfl
      refine ⟨rfl, ?_⟩
      refine ⟨_, rfl, _, rfl, tileD u, tileD t, dp_tile hup, dp_tile ht1, tileD_shaped _, tileD_shaped _, _, rfl, ?_⟩
      rw [tileD_eqv]
      have e0 : (!decide (u = t)) = (u != t) := by
        by_cases w : u = t
        · subst w
          simp
        · rw [decide_eq_false w]
          exact (bne_iff_ne.mpr w).symm
      rw [e0]
      refine ite2 (c := (u != t) = true) (fun w => ?_) (fun w => ?_)
      · rw [if_pos w] at step
        refine ⟨_, rfl, R.a, R.dx, _, rfl, sm _ _ ra.ins, rF_no_places_of, _, rfl, R, z, u, x, rfl, ok, rat.same sm, hup, fun H2 p s2 hp0 hp => ?_⟩
        have npD : p ≠ D := fun e => by rw [e, hacc] at hp0; cases hp0
        refine ⟨acc, s2 _ _ hacc, choices_small hch ok (by
          rw [List.length_map]
          exact Nat.le_trans (List.length_filter_le _ _) (List.length_take_le' _ _)), fun b o e => ?_, acc ++ [.ref p], upd_same, ?_, ?_⟩
        · rw [upd_ne (ne_of_none e hD)]
          exact s2 _ _ (sm _ _ e)
        · rw [step]
          exact choices_more (hch.same s2) (s2 _ _ hacc) nots hp npD (Same.refl H2)
        · intro v hv
          rcases List.mem_append.mp hv with m | m
          · exact nots v m
          · rw [List.mem_singleton.mp m]
            intro e
            injection e with e
            exact npD e
      · rw [if_neg w, List.append_nil] at step
        exact ⟨sm, acc, hacc, by rw [step]; exact hch, nots⟩
    · rintro H1 ⟨sm, acc, hacc, hch, _⟩
      rw [hlen, List.take_length] at hch
      have ht1 : TupAt H1 t v := by
        obtain ⟨tp, e, hp⟩ := ht
        exact ⟨tp, e, sm _ _ hp⟩
      refine ⟨_, rfl, _, rfl, R.a, R.dx, _, rfl, sm _ _ ra.ins, rF_no_places_of, _, rfl, R, z, t, v, rfl, ok, rat.same sm, ht1, fun H2 p s2 hp0 hp => ?_⟩
      refine ⟨_, rfl, R.a, CR, R.dx, _, _, rfl, s2 _ _ (sm _ _ ra.ins), T.cl, T.room, rF_room, D, p, R.rm, acc, othersOf z t, z.owners t, z.caps, rfl, s2 _ _ hacc, hch.same s2, hp, s2 _ _ (sm _ _ ra.rm), fit_one ok hun, fun H3 m s3 hm0 hm => ?_⟩
      rw [byPlace_dealsWith ok hun] at hm
      exact q H3 m ((sm.trans s2).trans s3) (same_free (sm.trans s2) hm0) hm
theorem ok_deals_hand (F : Fun K "deals_with_hand" "Round.deals_with_hand" s_r_deals_with_hand f fd) (T : TxtR K mg CR) (M : HasM P w K mg base CR "places_of" 2 ["self", "tile"] (spPlacesOf CR)) (C : HasF P w K mg base "count_deals" 3 ["choices", "room"] (spCount K)) :
    FnOk P w K mg base CX0 4 f fd ["self", "player", "hand"] (spDealsHand CR) := by
  obtain ⟨f1, fd1, m1, G1, b1⟩ := M
  obtain ⟨f2, fd2, m2, kp2, G2, b2⟩ := C
  refine F.ok sc_r_deals_with_hand (fun vs H Q E h => ?_) (fun cdv A outer s H vs Q E hr h => ?_)
  · obtain ⟨A, s, k, h, hs, r, rfl, _⟩ := h
    rfl
  · obtain ⟨R, z, k, h, hs, r, rfl, ok, rat, hh0, hat, q⟩ := h
    have hr1 : Room 2 _ := hr.mono (by decide)
    have hr3 : Room 3 _ := hr.mono (by decide)
    have hu65 : (A.deeper (envOfC "Round.deals_with_hand" (defScope s_r_deals_with_hand) s.heap.objs.size f cdv)).units + 65 < cLine := by have := hr.un; omega
    refine ⟨_, pss_cons (ps_set (i := 3) sc_r_deals_with_hand.nd rfl (Or.inl rfl) (pe_lst pa_nil))
      (pss_cons (ps_for PassesOwn.never rfl (pi_list (pe_fld (pv 0) rfl)) (pg_name (i := 4) sc_r_deals_with_hand.nd rfl (Or.inl rfl))
        (pss_cons (ps_set (i := 5) sc_r_deals_with_hand.nd rfl (Or.inl rfl) (pe_meth (pv 0) T.cl m1 G1 hr1 b1 .nil pass0 (pa_cons (pv 4) pa_nil)))
        (pss_cons (ps_if (pt_cmpR (op_inD hu65) (pv 4) (pv 2) (by rfl))
          (pss_one (ps_setLc (i := 5) (own := [("place", 6)]) (g := gName 6) (tt := tTest (tOp rEq (tVar 6) (tVar 1))) rfl sc_r_deals_with_hand.nd rfl rfl (sw_true rfl rfl rfl (by decide +kernel)) (pi_list (pv 5))
            (blkOk_by (own := [("place", 6)]) (N := ["self", "player", "hand", "choices", "tile", "places", "place"]) (sc := defScope s_r_deals_with_hand) (by decide +kernel))
            (fun _ _ _ _ _ => pg_name (i := 6) sc_r_deals_with_hand.nd rfl (Or.inl rfl))
            (fun _ _ _ _ _ => pts_one (pt_cmpR op_eq (pv 6) (pv 1) (nomark _)))
            (fun _ _ _ _ _ => pv 6))) pss_nil)
        (pss_one (ps_expr (pe_bm PySem.F.plainAttrs_list PySem.F.slot_list_append PySem.F.type_list_append mt_append (pv 3) (pa_cons (pv 5) pa_nil)))))))
      (pss_one (ps_ret (pe_call G2 hr3 rfl m2 kp2 b2 .nil pass0 (pa_cons (pv 3) (pa_cons (pe_fld (pv 0) rfl) pa_nil)))))), ?_⟩
    obtain ⟨kn, lk, sh, hkn, hlk, hsh, ra⟩ := id rat
    refine ⟨Nat.zero_le _, fun D hD => ?_⟩
    obtain ⟨hv, hh, htl⟩ := ra.hd
    have htl' : TilesAt H hv z.unseen := by
      rw [← ok.hid]
      exact htl
    have hlen : hv.length = z.unseen.length := Paired.length htl'
    have sD := same_new (o := .lst []) hD
    have raD := ra.same sD
    refine ⟨_, rfl, R.a, CR, R.dx, _, _, rfl, raD.ins, T.cl, T.hidden, rF_hidden, R.hd, rfl, ⟨hv, SqL.of (sD _ _ hh)⟩, ?_⟩
    refine for_it (walk_list (K := K) (a := R.hd) (xs := hv))
      (fun i σ H' => ∃ (v4 v5 v6 : Option V) (acc : List V), σ = [some (.ref R.a), some (nV k), some (.ref h), some (.ref D), v4, v5, v6] ∧ Same H H' ∧ H' D = some (.lst acc) ∧
        ChoicesAt H' acc ((z.unseen.take i).map fun x => if r.contains x = true then (z.owners x).filter (fun j => decide (j = k)) else z.owners x) ∧ ∀ v ∈ acc, v ≠ V.ref D)
      ⟨none, none, none, [], rfl, sD, upd_same, .nil, fun v hv => absurd hv (by simp)⟩ (fun i σ H' _ hp => by
        obtain ⟨_, _, _, _, _, sm, _⟩ := hp
        exact SqL.of (sm _ _ hh)) ?_ ?_
    · rintro i x σ H2 H3 hi ⟨v4, v5, v6, acc, rfl, sm, hacc, hch, nots⟩ ⟨rfl, hx⟩
      obtain ⟨t, ht, htp⟩ := paired_get (htl'.same sm) hx
      refine ⟨_, rfl, R.a, R.dx, _, rfl, sm _ _ ra.ins, rF_no_places_of, _, rfl, R, z, t, x, rfl, ok, rat.same sm, htp, fun H4 l s4 hl0 hl => ?_⟩
      -- the list of places as it goes to the end of choices
      have fin : ∀ (H5 : Hp) (m : Addr) (u6 : Option V), Same H3 H5 → H3 m = none → H5 m = some (.lst (nsV (if r.contains t = true then (z.owners t).filter (fun j => decide (j = k)) else z.owners t))) →
          acc.length < sizeLine ∧ ∃ (v4 v5 v6 : Option V) (acc' : List V), [some (V.ref R.a), some (nV k), some (V.ref h), some (V.ref D), some x, some (V.ref m), u6] = [some (V.ref R.a), some (nV k), some (V.ref h), some (V.ref D), v4, v5, v6] ∧
            Same H (upd H5 D (.lst (acc ++ [.ref m]))) ∧ upd H5 D (.lst (acc ++ [.ref m])) D = some (.lst acc') ∧
            ChoicesAt (upd H5 D (.lst (acc ++ [.ref m]))) acc' ((z.unseen.take (i + 1)).map fun x => if r.contains x = true then (z.owners x).filter (fun j => decide (j = k)) else z.owners x) ∧ ∀ v ∈ acc', v ≠ V.ref D := by
        intro H5 m u6 s5 hm0 hm
        have nmD : m ≠ D := fun w => by rw [w, hacc] at hm0; cases hm0
        refine ⟨choices_small hch ok (by rw [List.length_map]; exact List.length_take_le' _ _), _, _, _, acc ++ [.ref m], rfl, fun b o w => ?_, upd_same, ?_, ?_⟩
        · rw [upd_ne (ne_of_none w hD)]
          exact s5 _ _ (sm _ _ w)
        · rw [map_snoc _ ht]
          exact choices_more (hch.same s5) (s5 _ _ hacc) nots hm nmD (Same.refl H5)
        · intro v hv
          rcases List.mem_append.mp hv with w | w
          · exact nots v w
          · rw [List.mem_singleton.mp w]
            intro y
            injection y with y
            exact nmD y
      have htp4 : TupAt H4 t x := by
        obtain ⟨tp, e, hp⟩ := htp
        exact ⟨tp, e, s4 _ _ hp⟩
      have hat4 : TilesAt H4 hs r := (hat.same sm).same s4
      refine ⟨_, rfl, _, rfl, tileD t, r.map tileD, dp_tile htp4, .lst (SqL.of (s4 _ _ (sm _ _ hh0))) (dp_tiles hat4), tileD_shaped t, tilesD_shaped _, _, rfl, ?_⟩
      rw [any_tile]
      refine ite2 (c := r.contains t = true) (fun c => ?_) (fun c => ?_)
      · refine ⟨_, rfl, l, rfl, ⟨_, SqL.of hl⟩, fun D2 hD2 => ?_⟩
        refine lc_list (K := K) (a := l) (xs := nsV (z.owners t)) (fun j H' => Same H4 H' ∧ H' D2 = some (.lst (nsV (((z.owners t).take j).filter fun j => decide (j = k)))))
          ⟨same_new hD2, upd_same⟩ (fun j H' _ hp => SqL.of (hp.1 _ _ hl)) ?_ ?_
        · rintro j y H5 hy ⟨sm5, hl5⟩
          obtain ⟨i2, hi2, rfl⟩ := nsV_get hy
          refine ⟨rfl, _, rfl, _, rfl, rfl, _, rfl, ?_⟩
          have tst : decide (nV i2 = nV k) = decide (i2 = k) := by
            by_cases w : i2 = k
            · subst w
              simp
            · rw [decide_eq_false w]
              refine decide_eq_false fun y => w ?_
              unfold nV at y
              injection y with y
              omega
          have step : ((z.owners t).take (j + 1)).filter (fun j => decide (j = k)) = ((z.owners t).take j).filter (fun j => decide (j = k)) ++ (if decide (i2 = k) = true then [i2] else []) := by
            rw [take_snoc hi2, List.filter_append]
            congr 1
            by_cases w : decide (i2 = k) = true
            · rw [if_pos w]
              exact List.filter_cons_of_pos w
            · rw [if_neg w]
              exact List.filter_cons_of_neg w
          rw [tst]
          refine ite2 (c := decide (i2 = k) = true) (fun w => ?_) (fun w => ?_)
          · rw [if_pos w] at step
            refine ⟨_, rfl, _, hl5, ?_, fun b o w2 => ?_, ?_⟩
            · rw [nsV_len]
              have h1 := List.length_filter_le (fun j => decide (j = k)) ((z.owners t).take j)
              have h2 := List.length_take_le' j (z.owners t)
              have h3 : (z.owners t).length ≤ 100 := by
                have := ok.few.2
                rw [owners_eq]
                split
                · simp
                · have h5 := List.length_filter_le (fun k => decide (k = z.players) || !((z.lacks.getD k []).contains t.a || (z.lacks.getD k []).contains t.b)) (List.range (z.players + 1))
                  rw [List.length_range] at h5
                  unfold byPasses
                  have : z.players = z.left.length := rfl
                  omega
              exact Nat.lt_of_le_of_lt (by omega : _ ≤ 100) (by decide)
            · rw [upd_ne (ne_of_none w2 hD2)]
              exact sm5 _ _ w2
            · rw [upd_same, step]
              unfold nsV
              rw [List.map_append]
              rfl
          · rw [if_neg w, List.append_nil] at step
            exact ⟨sm5, by rw [step]; exact hl5⟩
        · rintro H5 ⟨sm5, hl5⟩
          rw [nsV_len, List.take_length] at hl5
          have hD20 : H3 D2 = none := same_free s4 hD2
          have g := fin H5 D2 v6 (s4.trans sm5) hD20 (by rw [if_pos c]; exact hl5)
          exact ⟨_, rfl, .inl ⟨rfl, _, SqL.of (sm5 _ _ (s4 _ _ hacc))⟩, _, rfl, D, acc, _, rfl, rfl, sm5 _ _ (s4 _ _ hacc), g.1, g.2⟩
      · have g := fin H4 l v6 s4 hl0 (by rw [if_neg c]; exact hl)
        exact ⟨_, rfl, .inl ⟨rfl, _, SqL.of (s4 _ _ hacc)⟩, _, rfl, D, acc, _, rfl, rfl, s4 _ _ hacc, g.1, g.2⟩
    · rintro σ H3 ⟨v4, v5, v6, acc, rfl, sm, hacc, hch, _⟩
      rw [hlen, List.take_length] at hch
      refine ⟨_, rfl, _, rfl, R.a, CR, R.dx, _, _, rfl, sm _ _ ra.ins, T.cl, T.room, rF_room, D, R.rm, acc, handed z r k, z.caps, rfl, hacc, hch, sm _ _ ra.rm, fit_all ok (List.length_map _) ?_, fun H4 s4 => ?_⟩
      · intro o hoo j hj
        obtain ⟨u, _, rfl⟩ := List.mem_map.mp hoo
        split at hj
        · exact owners_le ok (List.mem_filter.mp hj).1
        · exact owners_le ok hj
      · have g := q H4 (sm.trans s4)
        rw [← handed_count ok] at g
        exact g
theorem or_at {c : Bool} {A B X : Prop} (h1 : X → A) (h2 : c = false → X → B) (x : X) : if c = true then A else B := by
  cases c with
  | true => rw [if_pos rfl]; exact h1 x
  | false => rw [if_neg Bool.false_ne_true]; exact h2 rfl x
theorem has_end (e : Nat × Nat) (t : Tile) : (inV (nV e.1) (tileV t) || inV (nV e.2) (tileV t)) = hasEnd e t := by
  have h : ∀ n : Nat, inV (nV n) (tileV t) = (t.a == n || t.b == n) := fun n => by
    have := in_nsV n [t.a, t.b]
    show inV (nV n) (nsV [t.a, t.b]) = _
    rw [this]
    simp only [List.contains_cons, List.contains_nil, Bool.or_false]
    rw [Bool.beq_comm (a := n) (b := t.a), Bool.beq_comm (a := n) (b := t.b)]
  rw [h, h]
  unfold hasEnd
  cases t.a == e.1 <;> cases t.b == e.1 <;> cases t.a == e.2 <;> cases t.b == e.2 <;> rfl
theorem ok_deals_after_pass (F : Fun K "deals_after_pass" "Round.deals_after_pass" s_r_deals_after_pass f fd) (T : TxtR K mg CR) (M : HasM P w K mg base CR "places_of" 2 ["self", "tile"] (spPlacesOf CR))
    (M2 : HasM P w K mg base CR "ends" 1 ["self"] (spEnds CR)) (C : HasF P w K mg base "count_deals" 3 ["choices", "room"] (spCount K)) : FnOk P w K mg base CX0 4 f fd ["self"] (spDealsPass CR) := by
  obtain ⟨f1, fd1, m1, G1, b1⟩ := M
  obtain ⟨f3, fd3, m3, G3, b3⟩ := M2
  obtain ⟨f2, fd2, m2, kp2, G2, b2⟩ := C
  refine F.ok sc_r_deals_after_pass (fun vs H Q E h => ?_) (fun cdv A outer s H vs Q E hr h => ?_)
  · obtain ⟨A, s, e, rfl, _⟩ := h
    rfl
  · obtain ⟨R, z, e, rfl, ok, ho, rat, he, q⟩ := h
    have hr1 : Room 2 _ := hr.mono (by decide)
    have hr3 : Room 3 _ := hr.mono (by decide)
    have hr0 : Room 1 _ := hr.mono (by decide)
    refine ⟨_, pss_cons (ps_asg (pe_meth0 (pv 0) T.cl m3 G3 hr0 b3 .nil pass0) (pg_tup (by rfl) (pgs_cons (pg_name (i := 1) sc_r_deals_after_pass.nd rfl (Or.inl rfl)) (pgs_cons (pg_name (i := 2) sc_r_deals_after_pass.nd rfl (Or.inl rfl)) pgs_nil))))
      (pss_cons (ps_set (i := 3) sc_r_deals_after_pass.nd rfl (Or.inl rfl) (pe_lst pa_nil))
      (pss_cons (ps_for PassesOwn.never rfl (pi_list (pe_fld (pv 0) rfl)) (pg_name (i := 4) sc_r_deals_after_pass.nd rfl (Or.inl rfl))
        (pss_cons (ps_set (i := 5) sc_r_deals_after_pass.nd rfl (Or.inl rfl) (pe_meth (pv 0) T.cl m1 G1 hr1 b1 .nil pass0 (pa_cons (pv 4) pa_nil)))
        (pss_cons (ps_if (PW.pt (pw_or (pt_cmpR op_in_seq (pv 1) (pv 4) (by rfl)) (pw_or1 (pt_cmpR op_in_seq (pv 2) (pv 4) (by rfl)))))
          (pss_one (ps_setLc (i := 5) (own := [("place", 6)]) (g := gName 6) (tt := tTest (tOp rNe (tVar 6) (tFld K (tVar 0) "turn"))) rfl sc_r_deals_after_pass.nd rfl rfl (sw_true rfl rfl rfl (by decide +kernel)) (pi_list (pv 5))
            (blkOk_by (own := [("place", 6)]) (N := ["self", "left", "right", "choices", "tile", "places", "place"]) (sc := defScope s_r_deals_after_pass) (by decide +kernel))
            (fun _ _ _ _ _ => pg_name (i := 6) sc_r_deals_after_pass.nd rfl (Or.inl rfl))
            (fun _ _ _ _ _ => pts_one (pt_cmpR op_ne (pv 6) (pe_fld (pv 0) rfl) (nomark _)))
            (fun _ _ _ _ _ => pv 6))) pss_nil)
        (pss_one (ps_expr (pe_bm PySem.F.plainAttrs_list PySem.F.slot_list_append PySem.F.type_list_append mt_append (pv 3) (pa_cons (pv 5) pa_nil)))))))
      (pss_one (ps_ret (pe_call G2 hr3 rfl m2 kp2 b2 .nil pass0 (pa_cons (pv 3) (pa_cons (pe_fld (pv 0) rfl) pa_nil))))))), ?_⟩
    obtain ⟨kn, lk, sh, hkn, hlk, hsh, ra⟩ := id rat
    refine ⟨_, rfl, R.a, R.dx, _, rfl, ra.ins, rF_no_ends, R, z, rfl, rat, fun H1 p s1 hp => ?_⟩
    have hp' : H1 p = some (.tup [nV e.1, nV e.2]) := by
      rw [hp]
      unfold endsV
      rw [he]
    refine ⟨p, _, rfl, SqT.of hp', rfl, _, _, rfl, _, _, rfl, rfl, ?_⟩
    refine ⟨Nat.zero_le _, fun D hD => ?_⟩
    have ra1 := ra.same s1
    obtain ⟨hv, hh, htl⟩ := ra1.hd
    have htl' : TilesAt H1 hv z.unseen := by
      rw [← ok.hid]
      exact htl
    have hlen : hv.length = z.unseen.length := Paired.length htl'
    have sD := same_new (o := .lst []) hD
    have raD := ra1.same sD
    refine ⟨_, rfl, R.a, CR, R.dx, _, _, rfl, raD.ins, T.cl, T.hidden, rF_hidden, R.hd, rfl, ⟨hv, SqL.of (sD _ _ hh)⟩, ?_⟩
    refine for_it (walk_list (K := K) (a := R.hd) (xs := hv))
      (fun i σ H' => ∃ (v4 v5 v6 : Option V) (acc : List V), σ = [some (.ref R.a), some (nV e.1), some (nV e.2), some (.ref D), v4, v5, v6] ∧ Same H1 H' ∧ H' D = some (.lst acc) ∧
        ChoicesAt H' acc ((z.unseen.take i).map fun x => if hasEnd e x = true then (z.owners x).filter (fun k => decide (k ≠ z.who)) else z.owners x) ∧ ∀ v ∈ acc, v ≠ V.ref D)
      ⟨none, none, none, [], rfl, sD, upd_same, .nil, fun v hv => absurd hv (by simp)⟩ (fun i σ H' _ hp => by
        obtain ⟨_, _, _, _, _, sm, _⟩ := hp
        exact SqL.of (sm _ _ hh)) ?_ ?_
    · rintro i x σ H2 H3 hi ⟨v4, v5, v6, acc, rfl, sm, hacc, hch, nots⟩ ⟨rfl, hx⟩
      obtain ⟨t, ht, htp⟩ := paired_get (htl'.same sm) hx
      refine ⟨_, rfl, R.a, R.dx, _, rfl, sm _ _ ra1.ins, rF_no_places_of, _, rfl, R, z, t, x, rfl, ok, (rat.same s1).same sm, htp, fun H4 l s4 hl0 hl => ?_⟩
      -- the list of places as it goes to the end of choices
      have fin : ∀ (H5 : Hp) (m : Addr) (u6 : Option V), Same H3 H5 → H3 m = none → H5 m = some (.lst (nsV (if hasEnd e t = true then (z.owners t).filter (fun k => decide (k ≠ z.who)) else z.owners t))) →
          acc.length < sizeLine ∧ ∃ (v4 v5 v6 : Option V) (acc' : List V), [some (V.ref R.a), some (nV e.1), some (nV e.2), some (V.ref D), some x, some (V.ref m), u6] = [some (V.ref R.a), some (nV e.1), some (nV e.2), some (V.ref D), v4, v5, v6] ∧
            Same H1 (upd H5 D (.lst (acc ++ [.ref m]))) ∧ upd H5 D (.lst (acc ++ [.ref m])) D = some (.lst acc') ∧
            ChoicesAt (upd H5 D (.lst (acc ++ [.ref m]))) acc' ((z.unseen.take (i + 1)).map fun x => if hasEnd e x = true then (z.owners x).filter (fun k => decide (k ≠ z.who)) else z.owners x) ∧ ∀ v ∈ acc', v ≠ V.ref D := by
        intro H5 m u6 s5 hm0 hm
        have nmD : m ≠ D := fun w => by rw [w, hacc] at hm0; cases hm0
        refine ⟨choices_small hch ok (by rw [List.length_map]; exact List.length_take_le' _ _), _, _, _, acc ++ [.ref m], rfl, fun b o w => ?_, upd_same, ?_, ?_⟩
        · rw [upd_ne (ne_of_none w hD)]
          exact s5 _ _ (sm _ _ w)
        · rw [map_snoc _ ht]
          exact choices_more (hch.same s5) (s5 _ _ hacc) nots hm nmD (Same.refl H5)
        · intro v hv
          rcases List.mem_append.mp hv with w | w
          · exact nots v w
          · rw [List.mem_singleton.mp w]
            intro y
            injection y with y
            exact nmD y
      obtain ⟨tp, rfl, htt⟩ := htp
      have htt4 : H4 tp = some (.tup (tileV t)) := s4 _ _ htt
      have ends : (inV (nV e.1) (tileV t) || inV (nV e.2) (tileV t)) = hasEnd e t := has_end e t
      refine ⟨_, rfl, _, rfl, tp, tileV t, rfl, .inr (SqT.of htt4), rfl, rfl, _, rfl, ?_⟩
      by_cases c : hasEnd e t = true
      · refine or_at (fun x => x) (fun c1 x => ⟨_, rfl, _, rfl, tp, tileV t, rfl, .inr (SqT.of htt4), rfl, rfl, _, rfl, ?_⟩) ?_
        · have c2 : inV (nV e.2) (tileV t) = true := by
            have c1' : inV (nV e.1) (tileV t) = false := c1
            rw [c1', Bool.false_or, c] at ends
            exact ends
          show (fun (b : Bool) => _) (inV (nV e.2) (tileV t))
          rw [c2]
          exact x
        refine ⟨_, rfl, l, rfl, ⟨_, SqL.of hl⟩, fun D2 hD2 => ?_⟩
        refine lc_list (K := K) (a := l) (xs := nsV (z.owners t)) (fun j H' => Same H4 H' ∧ H' D2 = some (.lst (nsV (((z.owners t).take j).filter fun k => decide (k ≠ z.who)))))
          ⟨same_new hD2, upd_same⟩ (fun j H' _ hp => SqL.of (hp.1 _ _ hl)) ?_ ?_
        · rintro j y H5 hy ⟨sm5, hl5⟩
          obtain ⟨k, hk, rfl⟩ := nsV_get hy
          refine ⟨rfl, _, rfl, _, rfl, R.a, CR, R.dx, _, _, rfl, sm5 _ _ (s4 _ _ (sm _ _ ra1.ins)), T.cl, T.turn, rF_turn, rfl, _, rfl, ?_⟩
          have turn : (rawOf z kn lk sh).turn = (z.who : Int) := by
            show (if z.over = true then (-1 : Int) else (z.who : Int)) = _
            rw [ho, if_neg Bool.false_ne_true]
          have tst : (!decide (nV k = V.int (rawOf z kn lk sh).turn)) = decide (k ≠ z.who) := by
            rw [turn]
            by_cases w : k = z.who
            · subst w
              simp [nV]
            · have w2 : ¬ nV k = V.int (z.who : Int) := fun y => by
                unfold nV at y
                injection y with y
                omega
              rw [decide_eq_false w2, decide_eq_true w]
              rfl
          have step : ((z.owners t).take (j + 1)).filter (fun k => decide (k ≠ z.who)) = ((z.owners t).take j).filter (fun k => decide (k ≠ z.who)) ++ (if decide (k ≠ z.who) = true then [k] else []) := by
            rw [take_snoc hk, List.filter_append]
            congr 1
            by_cases w : decide (k ≠ z.who) = true
            · rw [if_pos w]
              exact List.filter_cons_of_pos w
            · rw [if_neg w]
              exact List.filter_cons_of_neg w
          rw [tst]
          refine ite2 (c := decide (k ≠ z.who) = true) (fun w => ?_) (fun w => ?_)
          · rw [if_pos w] at step
            refine ⟨_, rfl, _, hl5, ?_, fun b o w2 => ?_, ?_⟩
            · rw [nsV_len]
              have h1 := List.length_filter_le (fun k => decide (k ≠ z.who)) ((z.owners t).take j)
              have h2 := List.length_take_le' j (z.owners t)
              have h3 : (z.owners t).length ≤ 100 := by
                have := ok.few.2
                rw [owners_eq]
                split
                · simp
                · have h5 := List.length_filter_le (fun k => decide (k = z.players) || !((z.lacks.getD k []).contains t.a || (z.lacks.getD k []).contains t.b)) (List.range (z.players + 1))
                  rw [List.length_range] at h5
                  unfold byPasses
                  have : z.players = z.left.length := rfl
                  omega
              exact Nat.lt_of_le_of_lt (by omega : _ ≤ 100) (by decide)
            · rw [upd_ne (ne_of_none w2 hD2)]
              exact sm5 _ _ w2
            · rw [upd_same, step]
              unfold nsV
              rw [List.map_append]
              rfl
          · rw [if_neg w, List.append_nil] at step
            exact ⟨sm5, by rw [step]; exact hl5⟩
        · rintro H5 ⟨sm5, hl5⟩
          rw [nsV_len, List.take_length] at hl5
          have hD20 : H3 D2 = none := same_free s4 hD2
          have g := fin H5 D2 v6 (s4.trans sm5) hD20 (by rw [if_pos c]; exact hl5)
          exact ⟨_, rfl, .inl ⟨rfl, _, SqL.of (sm5 _ _ (s4 _ _ hacc))⟩, _, rfl, D, acc, _, rfl, rfl, sm5 _ _ (s4 _ _ hacc), g.1, g.2⟩
      · have both := (Bool.or_eq_false_iff (x := inV (nV e.1) (tileV t)) (y := inV (nV e.2) (tileV t))).mp (ends.trans (Bool.eq_false_iff.mpr c))
        have g := fin H4 l v6 s4 hl0 (by rw [if_neg c]; exact hl)
        refine ite2 (fun c1 => absurd (show inV (nV e.1) (tileV t) = true from c1) (by rw [both.1]; exact Bool.false_ne_true)) (fun _ => ⟨_, rfl, _, rfl, tp, tileV t, rfl, .inr (SqT.of htt4), rfl, rfl, _, rfl, ?_⟩)
        refine ite2 (fun c2 => absurd (show inV (nV e.2) (tileV t) = true from c2) (by rw [both.2]; exact Bool.false_ne_true)) (fun _ => ?_)
        exact ⟨_, rfl, .inl ⟨rfl, _, SqL.of (s4 _ _ hacc)⟩, _, rfl, D, acc, _, rfl, rfl, s4 _ _ hacc, g.1, g.2⟩
    · rintro σ H3 ⟨v4, v5, v6, acc, rfl, sm, hacc, hch, _⟩
      rw [hlen, List.take_length] at hch
      refine ⟨_, rfl, _, rfl, R.a, CR, R.dx, _, _, rfl, sm _ _ ra1.ins, T.cl, T.room, rF_room, D, R.rm, acc, _, z.caps, rfl, hacc, hch, sm _ _ ra1.rm, fit_all ok (List.length_map _) ?_, fun H4 s4 => ?_⟩
      · intro o hoo j hj
        obtain ⟨u, _, rfl⟩ := List.mem_map.mp hoo
        split at hj
        · exact owners_le ok (List.mem_filter.mp hj).1
        · exact owners_le ok hj
      · have g := q H4 ((s1.trans sm).trans s4)
        rw [← passed_count ok] at g
        exact g
end
end Dm
/-! ## DmMut -/
/-! What changes a round. -/
namespace Dm
open PySem PySem.Spec PyProof.Rows L2
open Kg86 (Tile full State)

/-! ### one part changed -/
section
variable {CR : Addr} {H : Hp} {A : RA} {r : Raw}
theorem RawAt.a_kn (h : RawAt CR H A r) : A.a ≠ A.kn := ne_of h.ins h.kn fun z => nomatch z
theorem RawAt.a_lk (h : RawAt CR H A r) : A.a ≠ A.lk := ne_of h.ins h.lk fun z => nomatch z
theorem RawAt.a_sh (h : RawAt CR H A r) : A.a ≠ A.sh := ne_of h.ins h.sh fun z => nomatch z
theorem RawAt.kn_sh (h : RawAt CR H A r) : A.kn ≠ A.sh := ne_of h.kn h.sh fun z => nomatch z
theorem RawAt.lk_sh (h : RawAt CR H A r) : A.lk ≠ A.sh := ne_of h.lk h.sh fun z => nomatch z
theorem RawAt.rm_sh (h : RawAt CR H A r) : A.rm ≠ A.sh := ne_of h.rm h.sh fun z => nomatch z
theorem RawAt.ln_sh (h : RawAt CR H A r) : A.ln ≠ A.sh := let ⟨_, q, _⟩ := h.ln; ne_of q h.sh fun z => nomatch z
theorem RawAt.hd_sh (h : RawAt CR H A r) : A.hd ≠ A.sh := let ⟨_, q, _⟩ := h.hd; ne_of q h.sh fun z => nomatch z
theorem RawAt.a_rm (h : RawAt CR H A r) : A.a ≠ A.rm := ne_of h.ins h.rm fun z => nomatch z
theorem RawAt.a_ln (h : RawAt CR H A r) : A.a ≠ A.ln := let ⟨_, q, _⟩ := h.ln; ne_of h.ins q fun z => nomatch z
theorem RawAt.a_hd (h : RawAt CR H A r) : A.a ≠ A.hd := let ⟨_, q, _⟩ := h.hd; ne_of h.ins q fun z => nomatch z
theorem RawAt.ln_kn (h : RawAt CR H A r) : A.ln ≠ A.kn := let ⟨_, q, _⟩ := h.ln; ne_of q h.kn fun z => nomatch z
theorem RawAt.ln_lk (h : RawAt CR H A r) : A.ln ≠ A.lk := let ⟨_, q, _⟩ := h.ln; ne_of q h.lk fun z => nomatch z
theorem RawAt.hd_kn (h : RawAt CR H A r) : A.hd ≠ A.kn := let ⟨_, q, _⟩ := h.hd; ne_of q h.kn fun z => nomatch z
theorem RawAt.hd_lk (h : RawAt CR H A r) : A.hd ≠ A.lk := let ⟨_, q, _⟩ := h.hd; ne_of q h.lk fun z => nomatch z
theorem RawAt.rm_kn (h : RawAt CR H A r) : A.rm ≠ A.kn := ne_of h.rm h.kn fun z => nomatch z
theorem RawAt.rm_lk (h : RawAt CR H A r) : A.rm ≠ A.lk := ne_of h.rm h.lk fun z => nomatch z
/-- tuples stay where something else is written -/
theorem tup_upd {a : Addr} {o o' : HO} (h : H a = some o) (no : ∀ xs, o ≠ .tup xs) : ∀ b xs, H b = some (.tup xs) → upd H a o' b = some (.tup xs) := fun b xs e => by
  rw [upd_ne]
  · exact e
  · intro z
    rw [z, h] at e
    exact no xs (Option.some.inj e)
theorem RawAt.setIns (h : RawAt CR H A r) {r' : Raw} (e1 : r'.line = r.line) (e2 : r'.hidden = r.hidden) (e3 : r'.room = r.room) (e4 : r'.kn = r.kn) (e5 : r'.lk = r.lk) (e6 : r'.sh = r.sh) : RawAt CR (upd H A.a (.ins CR A.dx (rawF A r'))) A r' where
  ins := upd_same
  ln := let ⟨vs, a, b⟩ := h.ln; ⟨vs, by rw [upd_ne h.a_ln.symm]; exact a, by rw [e1]; exact b.keep (tup_upd h.ins fun _ z => nomatch z)⟩
  hd := let ⟨vs, a, b⟩ := h.hd; ⟨vs, by rw [upd_ne h.a_hd.symm]; exact a, by rw [e2]; exact b.keep (tup_upd h.ins fun _ z => nomatch z)⟩
  rm := by rw [upd_ne h.a_rm.symm, e3]; exact h.rm
  kn := by rw [upd_ne h.a_kn.symm, e4]; exact h.kn
  lk := by rw [upd_ne h.a_lk.symm, e5]; exact h.lk
  sh := by rw [upd_ne h.a_sh.symm, e6]; exact h.sh
  n1 := h.n1
  n2 := h.n2
  n3 := h.n3
  n4 := h.n4
theorem RawAt.setKn (h : RawAt CR H A r) (kn : List (List Key × V)) : RawAt CR (upd H A.kn (.dT kn)) A { r with kn := kn } where
  ins := by rw [upd_ne h.a_kn]; exact h.ins
  ln := let ⟨vs, a, b⟩ := h.ln; ⟨vs, by rw [upd_ne h.ln_kn]; exact a, b.keep (tup_upd h.kn fun _ z => nomatch z)⟩
  hd := let ⟨vs, a, b⟩ := h.hd; ⟨vs, by rw [upd_ne h.hd_kn]; exact a, b.keep (tup_upd h.kn fun _ z => nomatch z)⟩
  rm := by rw [upd_ne h.rm_kn]; exact h.rm
  kn := upd_same
  lk := by rw [upd_ne h.n4.symm]; exact h.lk
  sh := by rw [upd_ne h.kn_sh.symm]; exact h.sh
  n1 := h.n1
  n2 := h.n2
  n3 := h.n3
  n4 := h.n4
theorem RawAt.setLk (h : RawAt CR H A r) (lk : List (List Key × V)) : RawAt CR (upd H A.lk (.dT lk)) A { r with lk := lk } where
  ins := by rw [upd_ne h.a_lk]; exact h.ins
  ln := let ⟨vs, a, b⟩ := h.ln; ⟨vs, by rw [upd_ne h.ln_lk]; exact a, b.keep (tup_upd h.lk fun _ z => nomatch z)⟩
  hd := let ⟨vs, a, b⟩ := h.hd; ⟨vs, by rw [upd_ne h.hd_lk]; exact a, b.keep (tup_upd h.lk fun _ z => nomatch z)⟩
  rm := by rw [upd_ne h.rm_lk]; exact h.rm
  kn := by rw [upd_ne h.n4]; exact h.kn
  lk := upd_same
  sh := by rw [upd_ne h.lk_sh.symm]; exact h.sh
  n1 := h.n1
  n2 := h.n2
  n3 := h.n3
  n4 := h.n4
theorem RawAt.setRm (h : RawAt CR H A r) (room : List Nat) : RawAt CR (upd H A.rm (.lst (nsV room))) A { r with room := room } where
  ins := by rw [upd_ne h.a_rm]; exact h.ins
  ln := let ⟨vs, a, b⟩ := h.ln; ⟨vs, by rw [upd_ne h.n2]; exact a, b.keep (tup_upd h.rm fun _ z => nomatch z)⟩
  hd := let ⟨vs, a, b⟩ := h.hd; ⟨vs, by rw [upd_ne h.n3]; exact a, b.keep (tup_upd h.rm fun _ z => nomatch z)⟩
  rm := upd_same
  kn := by rw [upd_ne h.rm_kn.symm]; exact h.kn
  lk := by rw [upd_ne h.rm_lk.symm]; exact h.lk
  sh := by rw [upd_ne h.rm_sh.symm]; exact h.sh
  n1 := h.n1
  n2 := h.n2
  n3 := h.n3
  n4 := h.n4
theorem RawAt.setSh (h : RawAt CR H A r) (sh : List (Key × V)) : RawAt CR (upd H A.sh (.dK sh)) A { r with sh := sh } where
  ins := by rw [upd_ne h.a_sh]; exact h.ins
  ln := let ⟨vs, a, b⟩ := h.ln; ⟨vs, by rw [upd_ne h.ln_sh]; exact a, b.keep (tup_upd h.sh fun _ z => nomatch z)⟩
  hd := let ⟨vs, a, b⟩ := h.hd; ⟨vs, by rw [upd_ne h.hd_sh]; exact a, b.keep (tup_upd h.sh fun _ z => nomatch z)⟩
  rm := by rw [upd_ne h.rm_sh]; exact h.rm
  kn := by rw [upd_ne h.kn_sh]; exact h.kn
  lk := by rw [upd_ne h.lk_sh]; exact h.lk
  sh := upd_same
  n1 := h.n1
  n2 := h.n2
  n3 := h.n3
  n4 := h.n4
theorem RawAt.setLn (h : RawAt CR H A r) (vs : List V) (line : List (Nat × Nat)) (q : PairsAt H vs line) : RawAt CR (upd H A.ln (.lst vs)) A { r with line := line } where
  ins := by rw [upd_ne h.a_ln]; exact h.ins
  ln := let ⟨_, a, _⟩ := h.ln; ⟨vs, upd_same, q.keep (tup_upd a fun _ z => nomatch z)⟩
  hd := let ⟨_, c, _⟩ := h.ln; let ⟨vs, a, b⟩ := h.hd; ⟨vs, by rw [upd_ne h.n1.symm]; exact a, b.keep (tup_upd c fun _ z => nomatch z)⟩
  rm := by rw [upd_ne h.n2.symm]; exact h.rm
  kn := by rw [upd_ne h.ln_kn.symm]; exact h.kn
  lk := by rw [upd_ne h.ln_lk.symm]; exact h.lk
  sh := by rw [upd_ne h.ln_sh.symm]; exact h.sh
  n1 := h.n1
  n2 := h.n2
  n3 := h.n3
  n4 := h.n4
theorem RawAt.setHd (h : RawAt CR H A r) (vs : List V) (hidden : List Tile) (q : TilesAt H vs hidden) : RawAt CR (upd H A.hd (.lst vs)) A { r with hidden := hidden } where
  ins := by rw [upd_ne h.a_hd]; exact h.ins
  ln := let ⟨_, c, _⟩ := h.hd; let ⟨vs, a, b⟩ := h.ln; ⟨vs, by rw [upd_ne h.n1]; exact a, b.keep (tup_upd c fun _ z => nomatch z)⟩
  hd := let ⟨_, a, _⟩ := h.hd; ⟨vs, upd_same, q.keep (tup_upd a fun _ z => nomatch z)⟩
  rm := by rw [upd_ne h.n3.symm]; exact h.rm
  kn := by rw [upd_ne h.hd_kn.symm]; exact h.kn
  lk := by rw [upd_ne h.hd_lk.symm]; exact h.lk
  sh := by rw [upd_ne h.hd_sh.symm]; exact h.sh
  n1 := h.n1
  n2 := h.n2
  n3 := h.n3
  n4 := h.n4
end
theorem but_of {S : List Addr} {H : Hp} {a : Addr} {o : HO} (h : a ∈ S) : SameBut S H (upd H a o) := fun b u e n => by
  rw [upd_ne]
  · exact e
  · intro z
    exact n (by rw [z]; exact h)
theorem RA.a_mem (A : RA) : A.a ∈ A.all := by simp [RA.all]
theorem RA.ln_mem (A : RA) : A.ln ∈ A.all := by simp [RA.all]
theorem RA.hd_mem (A : RA) : A.hd ∈ A.all := by simp [RA.all]
theorem RA.rm_mem (A : RA) : A.rm ∈ A.all := by simp [RA.all]
theorem RA.kn_mem (A : RA) : A.kn ∈ A.all := by simp [RA.all]
theorem RA.lk_mem (A : RA) : A.lk ∈ A.all := by simp [RA.all]
theorem RA.sh_mem (A : RA) : A.sh ∈ A.all := by simp [RA.all]

/-! ### sizes -/
theorem nodup_len {α : Type} [DecidableEq α] : ∀ (l m : List α), l.Nodup → (∀ x ∈ l, x ∈ m) → l.length ≤ m.length
  | [], _, _, _ => Nat.zero_le _
  | a :: r, m, hn, h => by
    have hn' := List.nodup_cons.mp hn
    have ha := h a (List.mem_cons.mpr (.inl rfl))
    have ih := nodup_len r (m.erase a) hn'.2 fun x hx => by
      have hxa : x ≠ a := fun e => hn'.1 (e ▸ hx)
      exact (List.mem_erase_of_ne hxa).mpr (h x (List.mem_cons.mpr (.inr hx)))
    rw [List.length_erase_of_mem ha] at ih
    have : 0 < m.length := List.length_pos_of_mem ha
    rw [List.length_cons]
    omega
theorem known_short {s : State} (h : Ok s) : s.known.length ≤ 28 := by
  have := nodup_len (s.known.map (·.1)) s.unseen h.knownOnce fun x hx => by
    obtain ⟨e, he, rfl⟩ := List.mem_map.mp hx
    exact (h.known e he).1
  rw [List.length_map] at this
  exact Nat.le_trans this (unseen_short h.top)
theorem lacks_len {s : State} (h : Ok s) : (s.lacks.map List.length).sum ≤ 28 := by
  have one : ∀ l ∈ s.lacks, l.length ≤ 7 := fun l hl => nodup_short 7 l (h.lackOnce l hl) fun n hn => Nat.lt_succ_of_le (h.lackRange l hl n hn)
  have gen : ∀ m : List (List Nat), (∀ l ∈ m, l.length ≤ 7) → (m.map List.length).sum ≤ 7 * m.length := by
    intro m
    induction m with
    | nil => intro _; simp
    | cons a r ih =>
      intro q
      have h1 := q a (List.mem_cons.mpr (.inl rfl))
      have h2 := ih fun l hl => q l (List.mem_cons.mpr (.inr hl))
      rw [List.map_cons, List.sum_cons, List.length_cons]
      omega
  have := gen s.lacks one
  have := h.lacks
  have := h.few.2
  omega
theorem tileK_inj {t u : Tile} (h : tileK t = tileK u) : t = u := by
  have e := keyN_inj h
  injection e with e1 e2
  injection e2 with e2 _
  cases t
  cases u
  cases e1
  cases e2
  rfl
theorem kn_put {kn : List (List Key × V)} {known : List (Tile × Nat)} (h : KnRel kn known) {t : Tile} {k : Nat} (hn : (known.any fun z => z.1 == t) = false) : KnRel (putK kn (tileK t) (nV k)) (known ++ [(t, k)]) := by
  have none : valV kn (tileK t) = none := by
    rw [h.val]
    have : known.find? (fun x => x.1 == t) = none := by
      rw [List.find?_eq_none]
      intro y hy
      exact List.any_eq_false.mp hn y hy
    rw [this]
    rfl
  refine ⟨fun u => ?_, ?_, nd_putK _ h.once none⟩
  · rw [valV_put]
    have f := find_snoc (x := u) (k := k) hn
    have f2 : ((known ++ [(t, k)]).find? fun y => y.1 == u).map (fun x => nV x.2) = (((known ++ [(t, k)]).find? fun y => y.1 == u).map (·.2)).map nV := by
      rw [Option.map_map]
      rfl
    rw [f2, f]
    by_cases e : u = t
    · rw [if_pos (by rw [e]), if_pos e]
      rfl
    · rw [if_neg fun z => e (tileK_inj z), if_neg e, h.val, Option.map_map]
      rfl
  · rw [putK_new _ none, List.length_append, List.length_append, h.len]
    rfl
theorem kn_drop {kn : List (List Key × V)} {known : List (Tile × Nat)} (h : KnRel kn known) (hk : (known.map (·.1)).Nodup) {t : Tile} {k : Nat} (hf : (known.find? fun x => x.1 == t).map (·.2) = some k) : KnRel (dropK kn (tileK t)) (known.filter fun z => z.1 != t) := by
  have vd : ∀ (l : List (List Key × V)) (u : Tile), valV (dropK l (tileK t)) (tileK u) = if u = t then none else valV l (tileK u) := by
    intro l u
    induction l with
    | nil => by_cases e : u = t <;> simp [e, dropK, valV]
    | cons p r ih =>
      by_cases e : p.1 = tileK t
      · rw [dropK_pos e, ih]
        by_cases eu : u = t
        · rw [if_pos eu, if_pos eu]
        · rw [if_neg eu, if_neg eu, valV_neg]
          intro z
          exact eu (tileK_inj (e.symm.trans z)).symm
      · rw [dropK_neg e]
        by_cases e2 : p.1 = tileK u
        · rw [valV_pos e2, valV_pos e2, if_neg]
          intro z
          exact e (by rw [e2, z])
        · rw [valV_neg e2, valV_neg e2, ih]
  refine ⟨fun u => ?_, ?_, nd_dropK h.once⟩
  · rw [vd]
    by_cases e : u = t
    · rw [if_pos e]
      have : (known.filter fun z => z.1 != t).find? (fun x => x.1 == u) = none := by
        rw [List.find?_eq_none]
        intro y hy q
        have a := (List.mem_filter.mp hy).2
        have b : y.1 = u := by simpa using q
        rw [b, e] at a
        simp at a
      rw [this]
      rfl
    · rw [if_neg e, h.val, find_filter _ e]
  · have there : tileK t ∈ kn.map (·.1) := by
      have v := h.val t
      cases q : known.find? fun x => x.1 == t with
      | none => rw [q] at hf; exact absurd hf (by simp)
      | some x =>
        rw [q] at v
        exact valV_in v
    have l1 := dropK_len h.once there
    have gen : ∀ l : List (Tile × Nat), (l.map (·.1)).Nodup → t ∈ l.map (·.1) → (l.filter fun z => z.1 != t).length + 1 = l.length := by
      intro l
      induction l with
      | nil => intro _ m; exact absurd m (by simp)
      | cons a r ih =>
        intro hn hm
        have hn' : a.1 ∉ r.map (·.1) ∧ (r.map (·.1)).Nodup := List.nodup_cons.mp hn
        by_cases e : a.1 = t
        · have rest : r.filter (fun z => z.1 != t) = r := by
            rw [List.filter_eq_self]
            intro z hz
            have : z.1 ≠ t := fun w => hn'.1 (List.mem_map.mpr ⟨z, hz, w.trans e.symm⟩)
            simpa using this
          rw [List.filter_cons_of_neg (by simp [e]), rest, List.length_cons]
        · have hm' : t ∈ r.map (·.1) := by
            rcases List.mem_cons.mp hm with z | z
            · exact absurd z.symm e
            · exact z
          rw [List.filter_cons_of_pos (by simpa using e), List.length_cons, List.length_cons, ih hn'.2 hm']
    have mem : t ∈ known.map (·.1) := by
      cases q : known.find? fun x => x.1 == t with
      | none => rw [q] at hf; exact absurd hf (by simp)
      | some x =>
        have e : x.1 = t := by simpa using List.find?_some q
        exact List.mem_map.mpr ⟨x, List.mem_of_find?_eq_some q, e⟩
    have l2 := gen known hk mem
    have l3 := h.len
    omega
theorem kn_same {kn : List (List Key × V)} {known : List (Tile × Nat)} (h : KnRel kn known) {t : Tile} (hf : known.find? (fun x => x.1 == t) = none) : KnRel kn (known.filter fun z => z.1 != t) := by
  have : known.filter (fun z => z.1 != t) = known := by
    rw [List.filter_eq_self]
    intro z hz
    have := List.find?_eq_none.mp hf z hz
    simpa using this
  rw [this]
  exact h

/-! ### note_known, end_turn -/
def spNoteKnown (CR : Addr) : Sp := fun vs H Q _ => ∃ (A : RA) (r : Raw) (t : Tile) (v : V) (k : Nat), vs = [.ref A.a, v, nV k] ∧ RawAt CR H A r ∧ TupAt H t v ∧ r.kn.length < sizeLine ∧
  ∀ H' : Hp, SameBut A.all H H' → RawAt CR H' A { r with kn := putK r.kn (tileK t) (nV k) } → Q .non H'
def spEndTurn (CR : Addr) : Sp := fun vs H Q _ => ∃ (A : RA) (r : Raw) (b : Bool), vs = [.ref A.a, .bl b] ∧ RawAt CR H A r ∧ (b = false → 0 < r.players) ∧
  ∀ H' : Hp, SameBut A.all H H' → RawAt CR H' A { r with turn := if b = true then -1 else (r.turn + 1) % r.players } → Q .non H'
section
variable {P : Program} {w : World} {K : PySem.W.Frag} {mg : Str → Option Value} {base : Heap} {CR : Addr} {f : Addr} {fd : FuncData}
theorem ok_note_known (F : Fun K "note_known" "Round.note_known" s_r_note_known f fd) (T : TxtR K mg CR) : FnOk P w K mg base CX0 1 f fd ["self", "tile", "place"] (spNoteKnown CR) := by
  refine F.ok sc_r_note_known (fun vs H Q E h => ?_) (fun cdv A outer s H vs Q E hr h => ?_)
  · obtain ⟨A, r, t, v, k, rfl, _⟩ := h
    rfl
  · obtain ⟨R, r, t, v, k, rfl, ra, ⟨tp, rfl, htp⟩, hz, q⟩ := h
    have hu := hu_of hr
    refine ⟨_, pss_one (ps_dput hu (pe_fld (pv 0) rfl) (pv 1) (pv 2) rfl), ?_⟩
    have hkey : H tp = some (.tup ((tileK t).map kV)) := by
      unfold tileK
      rw [keyN_kV]
      exact htp
    refine ⟨_, rfl, _, rfl, R.a, CR, R.dx, _, _, rfl, ra.ins, T.cl, T.known, rF_known, _, rfl, R.kn, _, rfl, .inr ⟨r.kn, tileK t, tp, ra.kn, rfl, hkey, hz, rfl⟩, ?_⟩
    exact q _ (but_of R.kn_mem) (ra.setKn _)
theorem ok_end_turn (F : Fun K "end_turn" "Round.end_turn" s_r_end_turn f fd) (T : TxtR K mg CR) : FnOk P w K mg base CX0 1 f fd ["self", "over"] (spEndTurn CR) := by
  refine F.ok sc_r_end_turn (fun vs H Q E h => ?_) (fun cdv A outer s H vs Q E hr h => ?_)
  · obtain ⟨A, r, b, rfl, _⟩ := h
    rfl
  · obtain ⟨R, r, b, rfl, ra, pos, q⟩ := h
    refine ⟨_, pss_one (ps_if (pt_val (pv 1)) (pss_one (ps_fld (pv 0) (pe_un un_neg pe_int) rfl))
      (pss_one (ps_fld (pv 0) (pe_op op_mod (pe_op op_add (pe_fld (pv 0) rfl) pe_int) (pe_fld (pv 0) rfl)) rfl))), ?_⟩
    refine ⟨_, rfl, b, rfl, ?_⟩
    cases b with
    | true =>
      refine iteT ?_
      refine ⟨1, rfl, _, rfl, R.a, CR, R.dx, _, rfl, ra.ins, T.cl, T.turn, by show 10 < 1000; decide, ?_⟩
      refine q _ (but_of R.a_mem) ?_
      have e : putF "turn" (.int (-1)) (rawF R r) = rawF R { r with turn := -1 } := rP_turn
      rw [e]
      exact ra.setIns (r' := { r with turn := -1 }) rfl rfl rfl rfl rfl rfl
    | false =>
      refine iteF ?_
      refine ⟨_, rfl, R.a, CR, R.dx, _, _, rfl, ra.ins, T.cl, T.turn, rF_turn, _, _, rfl, rfl, _, rfl, R.a, CR, R.dx, _, _, rfl, ra.ins, T.cl, T.players, rF_players, _, _, rfl, rfl, pos rfl, ?_⟩
      refine ⟨_, rfl, R.a, CR, R.dx, _, rfl, ra.ins, T.cl, T.turn, by show 10 < 1000; decide, ?_⟩
      refine q _ (but_of R.a_mem) ?_
      have e : putF "turn" (.int ((r.turn + 1) % r.players)) (rawF R r) = rawF R { r with turn := (r.turn + 1) % r.players } := rP_turn
      rw [e]
      exact ra.setIns (r' := { r with turn := (r.turn + 1) % r.players }) rfl rfl rfl rfl rfl rfl
end
end Dm
/-! ## DmLay -/
/-! A tile is laid. -/
namespace Dm
open PySem PySem.Spec PyProof.Rows L2
open Kg86 (Tile full State)
theorem line_short {s : State} (h : Ok s) : s.line.length ≤ 28 := by
  have := nodup_len s.onTable (full s.top) h.once h.tiles
  have e : s.onTable.length = s.line.length := List.length_map _
  have := full_short h.top
  omega
/-- where a tile stands first -/
theorem first_at {t : Tile} : ∀ {l : List Tile}, t ∈ l → ∃ j, l[j]? = some t ∧ (∀ m u, m < j → l[m]? = some u → u ≠ t) ∧ l.eraseIdx j = l.erase t
  | [], h => absurd h (by simp)
  | a :: r, h => by
    by_cases e : a = t
    · subst e
      exact ⟨0, rfl, fun m u hm => absurd hm (Nat.not_lt_zero m), by simp⟩
    · have hr : t ∈ r := by
        rcases List.mem_cons.mp h with z | z
        · exact absurd z.symm e
        · exact z
      obtain ⟨j, h1, h2, h3⟩ := first_at hr
      refine ⟨j + 1, h1, fun m u hm hu => ?_, ?_⟩
      · cases m with
        | zero =>
          cases Option.some.inj hu
          exact e
        | succ m => exact h2 m u (Nat.lt_of_succ_lt_succ hm) hu
      · rw [List.eraseIdx_cons_succ, h3, List.erase_cons_tail (by simpa using e)]
theorem paired_erase {A B : Type} {F : A → B → Prop} : ∀ {l : List A} {m : List B} (j : Nat), Paired F l m → Paired F (l.eraseIdx j) (m.eraseIdx j)
  | _, _, _, .nil => .nil
  | _, _, 0, .cons _ t => t
  | _, _, j + 1, .cons r t => .cons r (paired_erase j t)
theorem ends_pos {s : State} {e : Nat × Nat} (he : s.ends = some e) : endsV s = [nV e.1, nV e.2] := by
  unfold endsV
  rw [he]
def spLay (CR : Addr) : Sp := fun vs H Q _ => ∃ (A : RA) (s : State) (t : Tile) (v : V) (side : Nat), vs = [.ref A.a, v, nV side] ∧ side ≤ 1 ∧ Ok s ∧ s.over = false ∧ RoundAt CR H A s ∧ TupAt H t v ∧ t ∈ s.unseen ∧ fitsSide s t side = true ∧
  ∀ H' : Hp, SameBut A.all H H' → RoundAt CR H' A (playedBy s t side) → Q .non H'
structure TxtL (mg : Str → Option Value) : Prop where
  left : ∃ tk, mg "LEFT" = some (.int 0 tk)
section
variable {P : Program} {w : World} {K : PySem.W.Frag} {mg : Str → Option Value} {base : Heap} {CR : Addr} {f : Addr} {fd : FuncData}
theorem ok_lay (F : Fun K "lay" "Round.lay" s_r_lay f fd) (T : TxtR K mg CR) (TL : TxtL mg) (M1 : HasM P w K mg base CR "ends" 1 ["self"] (spEnds CR)) (M3 : HasM P w K mg base CR "end_turn" 1 ["self", "over"] (spEndTurn CR))
    (C : HasF P w K mg base "other_number" 1 ["tile", "number"] (spOther K)) : FnOk P w K mg base CX0 2 f fd ["self", "tile", "side"] (spLay CR) := by
  obtain ⟨f1, fd1, m1, G1, b1⟩ := M1
  obtain ⟨f3, fd3, m3, G3, b3⟩ := M3
  obtain ⟨f2, fd2, m2, kp2, G2, b2⟩ := C
  obtain ⟨tkL, mL⟩ := TL.left
  refine F.ok sc_r_lay (fun vs H Q E h => ?_) (fun cdv A outer s H vs Q E hr h => ?_)
  · obtain ⟨A, s, t, v, side, rfl, _⟩ := h
    rfl
  · obtain ⟨R, z, t, v, side, rfl, hside, ok, ho, rat, ht, hun, hfit, q⟩ := h
    have hr1 : Room 1 _ := hr.mono (by decide)
    have hu := hu_of hr
    have hu65 : (A.deeper (envOfC "Round.lay" (defScope s_r_lay) s.heap.objs.size f cdv)).units + 65 < cLine := by have := hr.un; omega
    refine ⟨_, pss_cons (ps_asg (pe_meth0 (pv 0) T.cl m1 G1 hr1 b1 .nil pass0) (pg_tup (by rfl) (pgs_cons (pg_name (i := 3) sc_r_lay.nd rfl (Or.inl rfl)) (pgs_cons (pg_name (i := 4) sc_r_lay.nd rfl (Or.inl rfl)) pgs_nil))))
      (Evl.pss_cut (ps_if (pt_cmpR op_eq (pe_callB call_len_seq (by rfl) T.len PySem.boot_len (pa_cons (pe_fld (pv 0) rfl) pa_nil)) pe_int (nomark _))
          (pss_one (ps_expr (pe_bm PySem.F.plainAttrs_list PySem.F.slot_list_append PySem.F.type_list_append mt_append (pe_fld (pv 0) rfl) (pa_cons (pv 1) pa_nil))))
          (pss_one (ps_if (pt_cmpR op_eq (pv 2) (pe_glob (v := V.int 0) rfl mL ⟨_, rfl⟩) (nomark _))
            (pss_one (ps_expr (pe_bm PySem.F.plainAttrs_list PySem.F.slot_list_insert PySem.F.type_list_insert mt_insert (pe_fld (pv 0) rfl)
              (pa_cons pe_int (pa_cons (pe_tup (pa_cons (pe_call G2 hr1 rfl m2 kp2 b2 .nil pass0 (pa_cons (pv 1) (pa_cons (pv 3) pa_nil))) (pa_cons (pv 3) pa_nil))) pa_nil)))))
            (pss_one (ps_expr (pe_bm PySem.F.plainAttrs_list PySem.F.slot_list_append PySem.F.type_list_append mt_append (pe_fld (pv 0) rfl)
              (pa_cons (pe_tup (pa_cons (pv 4) (pa_cons (pe_call G2 hr1 rfl m2 kp2 b2 .nil pass0 (pa_cons (pv 1) (pa_cons (pv 4) pa_nil))) pa_nil))) pa_nil)))))))
      (pss_cons (ps_expr (pe_bm PySem.F.plainAttrs_list PySem.F.slot_list_remove PySem.F.type_list_remove (mt_removeD hu65) (pe_fld (pv 0) rfl) (pa_cons (pv 1) pa_nil)))
      (Evl.pss_cut (ps_if (pt_cmp (pc_din hu (pv 1) (pe_fld (pv 0) rfl))) (pss_one (ps_expr (pe_bm PySem.F.plainAttrs_dict PySem.F.slot_dict_pop PySem.F.type_dict_pop (mt_pop1 hu) (pe_fld (pv 0) rfl) (pa_cons (pv 1) pa_nil)))) pss_nil)
      (pss_cons (ps_asg (pe_op op_sub (pe_ix ix_list (pe_fld (pv 0) rfl) (pe_fld (pv 0) rfl) (fun _ _ => rfl)) pe_int) (pg_sub (pe_fld (pv 0) rfl) (pe_fld (pv 0) rfl) set_list))
      (pss_cons (ps_fld (pv 0) pe_int rfl)
      (pss_one (ps_expr (pe_meth (pv 0) T.cl m3 G3 hr1 b3 .nil pass0 (pa_cons (pe_cmpR op_eq (pe_ix ix_list (pe_fld (pv 0) rfl) (pe_fld (pv 0) rfl) (fun _ _ => rfl)) pe_int (nomark _)) pa_nil))))))))), ?_⟩
    obtain ⟨kn, lk, sh, hkn, hlk, hsh, ra⟩ := id rat
    obtain ⟨tp, rfl, htp⟩ := ht
    refine ⟨_, rfl, R.a, R.dx, _, rfl, ra.ins, rF_no_ends, R, z, rfl, rat, fun H1 p s1 hp => ?_⟩
    obtain ⟨e1, e2, hev⟩ : ∃ e1 e2, endsV z = [e1, e2] := by
      unfold endsV
      cases z.ends with
      | none => exact ⟨_, _, rfl⟩
      | some e => exact ⟨_, _, rfl⟩
    rw [hev] at hp
    refine ⟨p, [e1, e2], rfl, SqT.of hp, rfl, e1, [e2], rfl, e2, [], rfl, rfl, ?_⟩
    have ra1 := ra.same s1
    have htp1 := s1 _ _ htp
    have hab := (mem_full.mp (mem_unseen.mp hun).1).1
    -- the line
    refine ⟨fun σ' H' => σ' = [some (.ref R.a), some (.ref tp), some (nV side), some e1, some e2] ∧ SameBut R.all H1 H' ∧ H' tp = some (.tup (tileV t)) ∧ RawAt CR H' R { rawOf z kn lk sh with line := layAt z t side }, ?_, ?_⟩
    · obtain ⟨lv, hln, hpl⟩ := ra1.ln
      have hlen : lv.length = z.line.length := Paired.length hpl
      have small : lv.length < sizeLine := by
        rw [hlen]
        exact Nat.lt_of_le_of_lt (line_short ok) (by decide)
      refine ⟨_, rfl, R.a, CR, R.dx, _, _, rfl, ra1.ins, T.cl, T.line, rF_line, R.ln, lv, rfl, .inl (SqL.of hln), rfl, _, rfl, ?_⟩
      have ntl : tp ≠ R.ln := ne_of htp1 hln fun z => nomatch z
      refine ite2 (fun c => ?_) (fun c => ?_)
      · have e0 : lv.length = 0 := by
          have := of_decide_eq_true c
          injection this with this
          omega
        have el : z.line = [] := List.eq_nil_of_length_eq_zero (by omega)
        have lv0 : lv = [] := List.eq_nil_of_length_eq_zero e0
        refine ⟨_, rfl, R.a, CR, R.dx, _, _, rfl, ra1.ins, T.cl, T.line, rF_line, .inl ⟨rfl, _, SqL.of hln⟩, _, rfl, R.ln, lv, _, rfl, rfl, hln, small, ?_⟩
        refine ⟨rfl, but_of R.ln_mem, by rw [upd_ne ntl]; exact htp1, ?_⟩
        have lay : layAt z t side = [(t.a, t.b)] := by
          unfold layAt
          rw [ends_none.mpr el]
        rw [lay, lv0]
        exact ra1.setLn [V.ref tp] [(t.a, t.b)] (.cons ⟨tp, rfl, htp1⟩ .nil)
      · have ne : z.line ≠ [] := fun e => c (decide_eq_true (by rw [hlen, e]; rfl))
        cases he : z.ends with
        | none => exact absurd (ends_none.mp he) ne
        | some e =>
          rw [ends_pos he] at hev
          injection hev with q1 q2
          injection q2 with q2 _
          subst q1 q2
          refine ⟨_, rfl, rfl, _, rfl, ?_⟩
          refine ite2 (fun c2 => ?_) (fun c2 => ?_)
          · have s0 : side = 0 := by
              have := of_decide_eq_true c2
              unfold nV at this
              injection this with this
              omega
            refine ⟨_, rfl, R.a, CR, R.dx, _, _, rfl, ra1.ins, T.cl, T.line, rF_line, .inl ⟨rfl, _, SqL.of hln⟩, _, rfl, _, rfl, tp, t, e.1, rfl, htp1, _, rfl, by show 2 ≤ sizeLine; decide, fun m hm => ?_⟩
            have sm := same_new (o := .tup [nV (otherOf t e.1), nV e.1]) hm
            have ram := ra1.same sm
            refine ⟨R.ln, lv, 0, _, rfl, rfl, sm _ _ hln, small, by decide, by decide, ?_⟩
            have lay : layAt z t side = (otherOf t e.1, e.1) :: z.line := by
              unfold layAt
              rw [he]
              exact if_pos s0
            refine ⟨rfl, (but_same sm _).trans (but_of R.ln_mem), by rw [upd_ne ntl]; exact sm _ _ htp1, ?_⟩
            rw [lay]
            refine ram.setLn _ ((otherOf t e.1, e.1) :: z.line) ?_
            have hpl' : PairsAt (upd H1 m (.tup [nV (otherOf t e.1), nV e.1])) lv z.line := hpl.keep fun b xs w => sm _ _ w
            exact .cons ⟨m, rfl, upd_same⟩ hpl'
          · have s1' : ¬ side = 0 := fun w => c2 (decide_eq_true (by rw [w]; rfl))
            refine ⟨_, rfl, R.a, CR, R.dx, _, _, rfl, ra1.ins, T.cl, T.line, rF_line, .inl ⟨rfl, _, SqL.of hln⟩, _, rfl, _, rfl, _, rfl, tp, t, e.2, rfl, htp1, by show 2 ≤ sizeLine; decide, fun m hm => ?_⟩
            have sm := same_new (o := .tup [nV e.2, nV (otherOf t e.2)]) hm
            have ram := ra1.same sm
            refine ⟨R.ln, lv, _, rfl, rfl, sm _ _ hln, small, ?_⟩
            have lay : layAt z t side = z.line ++ [(e.2, otherOf t e.2)] := by
              unfold layAt
              rw [he]
              exact if_neg s1'
            refine ⟨rfl, (but_same sm _).trans (but_of R.ln_mem), by rw [upd_ne ntl]; exact sm _ _ htp1, ?_⟩
            rw [lay]
            refine ram.setLn _ (z.line ++ [(e.2, otherOf t e.2)]) ?_
            have hpl' : PairsAt (upd H1 m (.tup [nV e.2, nV (otherOf t e.2)])) lv z.line := hpl.keep fun b xs w => sm _ _ w
            exact Paired.snoc hpl' ⟨m, rfl, upd_same⟩
    · rintro σ' H2 ⟨rfl, sb2, htp2, ra2⟩
      -- hidden
      obtain ⟨hv, hh, htl⟩ := ra2.hd
      have htl' : TilesAt H2 hv z.unseen := by
        rw [← ok.hid]
        exact htl
      obtain ⟨j, hj, hjn, hje⟩ := first_at hun
      have pj := played_by hab hfit
      have hdt : ∀ (m : Nat) (d : PyData), (z.unseen.map tileD)[m]? = some d → ∃ u, z.unseen[m]? = some u ∧ d = tileD u := by
        intro m d w
        rw [List.getElem?_map] at w
        obtain ⟨u, hu, e⟩ := Option.map_eq_some_iff.mp w
        exact ⟨u, hu, e.symm⟩
      refine ⟨_, rfl, R.a, CR, R.dx, _, _, rfl, ra2.ins, T.cl, T.hidden, rF_hidden, .inl ⟨rfl, _, SqL.of hh⟩, _, rfl, R.hd, _, hv, tileD t, z.unseen.map tileD, j, tileD t, rfl, rfl, hh, dp_tiles htl', dp_tile ⟨tp, rfl, htp2⟩, tilesD_shaped _, tileD_shaped _, ?_, ?_, ?_, ?_⟩
      · rw [List.getElem?_map, hj]
        rfl
      · rw [tileD_eqv]
        simp
      · intro m d hm hd
        obtain ⟨u, hu, rfl⟩ := hdt m d hd
        rw [tileD_eqv]
        exact decide_eq_false (hjn m u hm hu)
      have ra3 := ra2.setHd (hv.eraseIdx j) (z.unseen.erase t) (by rw [← hje]; exact paired_erase j htl')
      have nth : tp ≠ R.hd := ne_of htp2 hh fun z => nomatch z
      have htp3 : upd H2 R.hd (.lst (hv.eraseIdx j)) tp = some (.tup (tileV t)) := by
        rw [upd_ne nth]
        exact htp2
      have sb3 : SameBut R.all H1 (upd H2 R.hd (.lst (hv.eraseIdx j))) := sb2.trans (but_of R.hd_mem)
      generalize hH3 : upd H2 R.hd (.lst (hv.eraseIdx j)) = H3 at ra3 htp3 sb3 ⊢
      -- known
      have hkey : H3 tp = some (.tup ((tileK t).map kV)) := by
        unfold tileK
        rw [keyN_kV]
        exact htp3
      refine ⟨fun σ' H' => σ' = [some (.ref R.a), some (.ref tp), some (nV side), some e1, some e2] ∧ SameBut R.all H1 H' ∧ ∃ kn', KnRel kn' (z.known.filter fun x => x.1 != t) ∧
        RawAt CR H' R { rawOf z kn lk sh with line := layAt z t side, hidden := z.unseen.erase t, kn := kn' }, ?_, ?_⟩
      · refine ⟨_, rfl, _, rfl, R.a, CR, R.dx, _, _, rfl, ra3.ins, T.cl, T.known, rF_known, R.kn, _, rfl, .inr ⟨kn, tileK t, tp, .inl ra3.kn, rfl, hkey, rfl⟩, _, rfl, ?_⟩
        rw [known_some hkn]
        cases hf : z.known.find? fun x => x.1 == t with
        | some x =>
          refine iteT ?_
          have v1 : valV kn (tileK t) = some (nV x.2) := by
            rw [hkn.val, hf]
            rfl
          refine ⟨_, rfl, R.a, CR, R.dx, _, _, rfl, ra3.ins, T.cl, T.known, rF_known, .inr (.inr (.inl ⟨rfl, .inr ⟨_, ra3.kn⟩⟩)), _, rfl, R.kn, kn, tileK t, tp, nV x.2, rfl, rfl, ra3.kn, hkey, v1, ?_⟩
          exact ⟨rfl, sb3.trans (but_of R.kn_mem), _, kn_drop hkn ok.knownOnce (k := x.2) (by rw [hf]; rfl), ra3.setKn _⟩
        | none =>
          refine iteF ?_
          exact ⟨rfl, sb3, kn, kn_same hkn hf, ra3⟩
      · rintro σ' H4 ⟨rfl, sb4, kn', hkn', ra4⟩
        have hw := ok.who
        have turn4 : (rawOf z kn lk sh).turn = (z.who : Int) := by
          show (if z.over = true then (-1 : Int) else (z.who : Int)) = _
          rw [ho, if_neg Bool.false_ne_true]
        have wlt : z.who < z.caps.length := by
          rw [caps_len]
          omega
        have at4 : atI (nsV z.caps) (rawOf z kn lk sh).turn = some (nV (z.caps.getD z.who 0)) := by
          rw [turn4]
          exact atI_nV wlt
        have pos : 0 < z.caps.getD z.who 0 := by
          rw [getD_caps hw]
          exact left_pos ok ho
        have ix4 : ixN (nsV z.caps).length (rawOf z kn lk sh).turn = some z.who := by
          rw [turn4, nsV_len]
          unfold ixN
          rw [if_pos (by omega), if_pos (by omega)]
          rfl
        refine ⟨_, rfl, R.a, CR, R.dx, _, _, rfl, ra4.ins, T.cl, T.room, rF_room, _, rfl, R.a, CR, R.dx, _, _, rfl, ra4.ins, T.cl, T.turn, rF_turn, R.rm, _, _, _, rfl, rfl, SqL.of ra4.rm, at4, _, _, rfl, rfl, ?_⟩
        refine ⟨_, rfl, R.a, CR, R.dx, _, _, rfl, ra4.ins, T.cl, T.room, rF_room, _, rfl, R.a, CR, R.dx, _, _, rfl, ra4.ins, T.cl, T.turn, rF_turn, R.rm, _, _, _, rfl, rfl, ra4.rm, ix4, ?_⟩
        have setd : (nsV z.caps).set z.who (V.int (((z.caps.getD z.who 0 : Nat) : Int) - 1)) = nsV (dec z.caps z.who) := by
          have e : V.int (((z.caps.getD z.who 0 : Nat) : Int) - 1) = nV (z.caps.getD z.who 0 - 1) := by
            unfold nV
            congr 1
            omega
          rw [e]
          unfold nsV dec
          rw [List.map_set]
        have ra5 := ra4.setRm (dec z.caps z.who)
        show tSeq _ _ _ _ (upd H4 R.rm (.lst ((nsV z.caps).set z.who (V.int (((z.caps.getD z.who 0 : Nat) : Int) - 1)))))
        rw [setd]
        have sb5 : SameBut R.all H1 (upd H4 R.rm (.lst (nsV (dec z.caps z.who)))) := sb4.trans (but_of R.rm_mem)
        generalize hH5 : upd H4 R.rm (.lst (nsV (dec z.caps z.who))) = H5 at ra5 sb5 ⊢
        -- passes
        refine ⟨_, rfl, R.a, CR, R.dx, _, rfl, ra5.ins, T.cl, T.passes, by show 10 < 1000; decide, ?_⟩
        have ra6 := ra5.setIns (r' := { rawOf z kn lk sh with line := layAt z t side, hidden := z.unseen.erase t, kn := kn', room := dec z.caps z.who, passes := 0 }) rfl rfl rfl rfl rfl rfl
        have ep : putF "passes" (V.int 0) (rawF R { rawOf z kn lk sh with line := layAt z t side, hidden := z.unseen.erase t, kn := kn', room := dec z.caps z.who }) =
            rawF R { rawOf z kn lk sh with line := layAt z t side, hidden := z.unseen.erase t, kn := kn', room := dec z.caps z.who, passes := 0 } := rP_passes
        rw [ep]
        have sb6 := sb5.trans (but_of (o := .ins CR R.dx (rawF R { rawOf z kn lk sh with line := layAt z t side, hidden := z.unseen.erase t, kn := kn', room := dec z.caps z.who, passes := 0 })) R.a_mem)
        generalize hH6 : upd H5 R.a (.ins CR R.dx (rawF R { rawOf z kn lk sh with line := layAt z t side, hidden := z.unseen.erase t, kn := kn', room := dec z.caps z.who, passes := 0 })) = H6 at ra6 sb6 ⊢
        have at6 : atI (nsV (dec z.caps z.who)) (rawOf z kn lk sh).turn = some (nV (z.left.getD z.who 0 - 1)) := by
          rw [turn4]
          have := atI_nV (l := dec z.caps z.who) (i := z.who) (by rw [dec_length]; exact wlt)
          rw [this, getD_dec, if_pos rfl, getD_caps hw]
        refine ⟨_, rfl, R.a, R.dx, _, rfl, ra6.ins, rF_no_end_turn, _, rfl, R.a, CR, R.dx, _, _, rfl, ra6.ins, T.cl, T.room, rF_room, _, rfl, R.a, CR, R.dx, _, _, rfl, ra6.ins, T.cl, T.turn, rF_turn, R.rm, _, _, _, rfl, rfl, SqL.of ra6.rm, at6, rfl, ?_⟩
        have tst : decide (nV (z.left.getD z.who 0 - 1) = V.int 0) = (z.left.getD z.who 0 - 1 == 0) := by
          by_cases w : z.left.getD z.who 0 - 1 = 0
          · rw [w]
            rfl
          · rw [beq_eq_false_iff_ne.mpr w]
            refine decide_eq_false fun y => ?_
            unfold nV at y
            injection y with y
            omega
        refine ⟨R, _, z.left.getD z.who 0 - 1 == 0, by rw [← tst]; rfl, ra6, fun _ => ?_, fun H7 sb7 ra7 => ?_⟩
        · show (0 : Int) < ((z.left.length : Nat) : Int)
          have := ok.few.1
          omega
        · have hpl := played_by hab hfit
          refine q H7 ((but_same s1 _).trans (sb6.trans sb7)) ⟨kn', lk, sh, hkn', hlk, hsh, ?_⟩
          have okp := ok_play ok ho hun hfit
          have eqr : rawOf (playedBy z t side) kn' lk sh = { rawOf z kn lk sh with line := layAt z t side, hidden := z.unseen.erase t, kn := kn', room := dec z.caps z.who, passes := 0, turn := if (z.left.getD z.who 0 - 1 == 0) = true then -1 else ((rawOf z kn lk sh).turn + 1) % (rawOf z kn lk sh).players } := by
            have e1 : (playedBy z t side).left.length = z.left.length := hpl.len
            have e2 : (playedBy z t side).left ≠ [] := okp.some_left
            have e3 : hid (playedBy z t side) = z.unseen.erase t := by rw [okp.hid, hpl.unseen ok]
            have e4 : (playedBy z t side).caps = dec z.caps z.who := hpl.caps ok hun (left_pos ok ho)
            unfold rawOf
            rw [e1, if_neg e2, e3, e4]
            have e5 : (if (playedBy z t side).over = true then (-1 : Int) else ((playedBy z t side).who : Int)) = if (z.left.getD z.who 0 - 1 == 0) = true then -1 else ((if z.over = true then (-1 : Int) else (z.who : Int)) + 1) % (z.left.length : Int) := by
              show (if (z.left.getD z.who 0 - 1 == 0) = true then (-1 : Int) else ((z.next : Nat) : Int)) = _
              rw [ho, if_neg Bool.false_ne_true]
              congr 1
            rw [e5, if_neg ok.some_left]
            rfl
          rw [eqr]
          exact ra7
end
end Dm
/-! ## DmPass -/
/-! A pass; a new round. -/
namespace Dm
open PySem PySem.Spec PyProof.Rows L2
open Kg86 (Tile full State)
theorem keys_putK {kvs : List (List Key × V)} {k : List Key} {v : V} : (k ∈ kvs.map (·.1) ∧ (putK kvs k v).map (·.1) = kvs.map (·.1)) ∨ (k ∉ kvs.map (·.1) ∧ (putK kvs k v).map (·.1) = kvs.map (·.1) ++ [k]) := by
  unfold putK
  have e : (kvs.any fun kv => decide (kv.1 = k)) = true ↔ k ∈ kvs.map (·.1) := by
    rw [List.any_eq_true]
    constructor
    · rintro ⟨x, hx, q⟩
      exact List.mem_map.mpr ⟨x, hx, of_decide_eq_true q⟩
    · intro h
      obtain ⟨x, hx, q⟩ := List.mem_map.mp h
      exact ⟨x, hx, decide_eq_true q⟩
  by_cases h : (kvs.any fun kv => decide (kv.1 = k)) = true
  · refine .inl ⟨e.mp h, ?_⟩
    rw [if_pos h, List.map_map]
    apply List.map_congr_left
    intro x _
    show (if x.1 = k then (x.1, v) else x).1 = x.1
    split <;> rfl
  · refine .inr ⟨fun z => h (e.mpr z), ?_⟩
    rw [if_neg h]
    simp
structure LkPart (lk : List (List Key × V)) (has : Nat → Nat → Bool) : Prop where
  val : ∀ k n : Nat, (valV lk (keyN [k, n])).isSome = has k n
  keys : ∀ x ∈ lk.map (·.1), ∃ k n : Nat, x = keyN [k, n] ∧ k ≤ 4 ∧ n ≤ 6
  once : (lk.map (·.1)).Nodup
theorem LkPart.short {lk : List (List Key × V)} {has : Nat → Nat → Bool} (h : LkPart lk has) : lk.length < sizeLine := by
  have := nodup_len (lk.map (·.1)) ((List.range 5).flatMap fun k => (List.range 7).map fun n => keyN [k, n]) h.once fun x hx => by
    obtain ⟨k, n, rfl, hk, hn⟩ := h.keys x hx
    exact List.mem_flatMap.mpr ⟨k, List.mem_range.mpr (by omega), List.mem_map.mpr ⟨n, List.mem_range.mpr (by omega), rfl⟩⟩
  rw [List.length_map] at this
  have e : (((List.range 5).flatMap fun k => (List.range 7).map fun n => keyN [k, n])).length = 35 := by decide
  rw [e] at this
  exact Nat.lt_of_le_of_lt this (by decide)
theorem LkPart.put {lk : List (List Key × V)} {has : Nat → Nat → Bool} (h : LkPart lk has) {k n : Nat} {v : V} (hk : k ≤ 4) (hn : n ≤ 6) : LkPart (putK lk (keyN [k, n]) v) fun j m => has j m || (j == k && m == n) where
  val := fun j m => by
    rw [valV_put]
    by_cases e : keyN [j, m] = keyN [k, n]
    · have e' := keyN_inj e
      injection e' with e1 e2
      injection e2 with e2 _
      subst e1 e2
      rw [if_pos rfl]
      simp
    · rw [if_neg e, h.val]
      have : (j == k && m == n) = false := by
        rw [Bool.and_eq_false_iff]
        by_cases w : j = k
        · right
          refine beq_eq_false_iff_ne.mpr fun z => e (by rw [w, z])
        · exact .inl (beq_eq_false_iff_ne.mpr w)
      rw [this, Bool.or_false]
  keys := fun x hx => by
    rcases keys_putK (kvs := lk) (k := keyN [k, n]) (v := v) with ⟨_, e⟩ | ⟨_, e⟩
    · rw [e] at hx
      exact h.keys x hx
    · rw [e] at hx
      rcases List.mem_append.mp hx with z | z
      · exact h.keys x z
      · exact ⟨k, n, List.mem_singleton.mp z, hk, hn⟩
  once := by
    rcases keys_putK (kvs := lk) (k := keyN [k, n]) (v := v) with ⟨_, e⟩ | ⟨m, e⟩
    · rw [e]
      exact h.once
    · rw [e]
      exact nodup_snoc h.once m
def spNotePass (CR : Addr) : Sp := fun vs H Q _ => ∃ (A : RA) (s : State) (e : Nat × Nat), vs = [.ref A.a] ∧ Ok s ∧ s.over = false ∧ RoundAt CR H A s ∧ s.ends = some e ∧
  ∀ H' : Hp, SameBut A.all H H' → RoundAt CR H' A (passedBy s e) → Q .non H'
section
variable {P : Program} {w : World} {K : PySem.W.Frag} {mg : Str → Option Value} {base : Heap} {CR : Addr} {f : Addr} {fd : FuncData}
theorem ok_note_pass (F : Fun K "note_pass" "Round.note_pass" s_r_note_pass f fd) (T : TxtR K mg CR) (M1 : HasM P w K mg base CR "ends" 1 ["self"] (spEnds CR)) (M3 : HasM P w K mg base CR "end_turn" 1 ["self", "over"] (spEndTurn CR)) :
    FnOk P w K mg base CX0 2 f fd ["self"] (spNotePass CR) := by
  obtain ⟨f1, fd1, m1, G1, b1⟩ := M1
  obtain ⟨f3, fd3, m3, G3, b3⟩ := M3
  refine F.ok sc_r_note_pass (fun vs H Q E h => ?_) (fun cdv A outer s H vs Q E hr h => ?_)
  · obtain ⟨A, s, e, rfl, _⟩ := h
    rfl
  · obtain ⟨R, z, e, rfl, ok, ho, rat, he, q⟩ := h
    have hr1 : Room 1 _ := hr.mono (by decide)
    have hu := hu_of hr
    refine ⟨_, pss_cons (ps_for PassesOwn.never rfl (pi_tup (pe_meth0 (pv 0) T.cl m1 G1 hr1 b1 .nil pass0)) (pg_name (i := 1) sc_r_note_pass.nd rfl (Or.inl rfl))
        (pss_one (ps_dput hu (pe_fld (pv 0) rfl) (pe_tup (pa_cons (pe_fld (pv 0) rfl) (pa_cons (pv 1) pa_nil))) pe_bl rfl)))
      (pss_cons (ps_fld (pv 0) (pe_op op_add (pe_fld (pv 0) rfl) pe_int) rfl)
      (pss_one (ps_expr (pe_meth (pv 0) T.cl m3 G3 hr1 b3 .nil pass0 (pa_cons (pe_cmpR op_eq (pe_fld (pv 0) rfl) (pe_fld (pv 0) rfl) (nomark _)) pa_nil))))), ?_⟩
    obtain ⟨kn, lk, sh, hkn, hlk, hsh, ra⟩ := id rat
    refine ⟨_, rfl, R.a, R.dx, _, rfl, ra.ins, rF_no_ends, R, z, rfl, rat, fun H1 p s1 hp => ?_⟩
    rw [ends_pos he] at hp
    have ra1 := ra.same s1
    have turn : (rawOf z kn lk sh).turn = (z.who : Int) := by
      show (if z.over = true then (-1 : Int) else (z.who : Int)) = _
      rw [ho, if_neg Bool.false_ne_true]
    have hw4 : z.who ≤ 4 := by
      have := ok.who
      have := ok.few.2
      omega
    have le := ends_le ok he
    refine ⟨p, rfl, ⟨_, SqT.of hp⟩, ?_⟩
    refine for_it (walk_tup (K := K) (a := p) (xs := [nV e.1, nV e.2]))
      (fun i σ H' => ∃ (v1 : Option V) (lk' : List (List Key × V)), σ = [some (.ref R.a), v1] ∧ SameBut R.all H1 H' ∧ H' p = some (.tup [nV e.1, nV e.2]) ∧
        LkPart lk' (fun k n => (z.lacks.getD k []).contains n || (k == z.who && ([e.1, e.2].take i).contains n)) ∧ RawAt CR H' R { rawOf z kn lk sh with lk := lk' })
      ⟨none, lk, rfl, SameBut.refl _ _, hp, ⟨fun k n => by rw [hlk.val]; simp, hlk.keys, hlk.once⟩, ra1⟩ (fun i σ H' _ hq => by
        obtain ⟨_, _, _, _, h, _⟩ := hq
        exact SqT.of h) ?_ ?_
    · rintro i x σ H2 H3 hi ⟨v1, lk', rfl, sb, hp2, part, ra2⟩ ⟨rfl, hx⟩
      obtain ⟨n, hn, rfl, hn6⟩ : ∃ n : Nat, [e.1, e.2][i]? = some n ∧ x = nV n ∧ n ≤ 6 := by
        have hi2 : i < 2 := hi
        rcases (by omega : i = 0 ∨ i = 1) with w | w
        · subst w
          exact ⟨e.1, rfl, (Option.some.inj hx).symm, le.1⟩
        · subst w
          exact ⟨e.2, rfl, (Option.some.inj hx).symm, le.2⟩
      refine ⟨_, rfl, R.a, CR, R.dx, _, _, rfl, ra2.ins, T.cl, T.lacks, rF_lacks, _, rfl, R.a, CR, R.dx, _, _, rfl, ra2.ins, T.cl, T.turn, rF_turn, _, rfl, by show 2 ≤ sizeLine; decide, fun m hm => ?_⟩
      have sm := same_new (o := .tup [V.int (rawOf z kn lk sh).turn, nV n]) hm
      have ra3 := ra2.same sm
      have hkey : upd H3 m (.tup [V.int (rawOf z kn lk sh).turn, nV n]) m = some (.tup ((keyN [z.who, n]).map kV)) := by
        rw [upd_same, turn]
        rfl
      refine ⟨R.lk, _, rfl, .inr ⟨lk', keyN [z.who, n], m, ra3.lk, rfl, hkey, part.short, rfl⟩, ?_⟩
      have npl : p ≠ R.lk := ne_of hp2 ra2.lk fun z => nomatch z
      refine ⟨_, _, rfl, (sb.trans (but_same sm _)).trans (but_of R.lk_mem), by rw [upd_ne npl]; exact sm _ _ hp2, ?_, ra3.setLk _⟩
      have part2 := part.put (k := z.who) (n := n) (v := .bl true) hw4 hn6
      refine ⟨fun k j => ?_, part2.keys, part2.once⟩
      rw [part2.val, take_snoc hn]
      have c1 : (List.take i [e.1, e.2] ++ [n]).contains j = ((List.take i [e.1, e.2]).contains j || j == n) := by
        rw [List.contains_append]
        congr 1
        show (j == n || false) = (j == n)
        rw [Bool.or_false]
      rw [c1]
      cases (z.lacks.getD k []).contains j <;> cases k == z.who <;> cases (List.take i [e.1, e.2]).contains j <;> cases j == n <;> rfl
    · rintro σ H2 ⟨v1, lk', rfl, sb, hp2, part, ra2⟩
      refine ⟨_, rfl, R.a, CR, R.dx, _, _, rfl, ra2.ins, T.cl, T.passes, rF_passes, _, _, rfl, rfl, _, rfl, R.a, CR, R.dx, _, rfl, ra2.ins, T.cl, T.passes, by show 10 < 1000; decide, ?_⟩
      have ra3 := ra2.setIns (r' := { rawOf z kn lk sh with lk := lk', passes := (rawOf z kn lk sh).passes + 1 }) rfl rfl rfl rfl rfl rfl
      have ep : putF "passes" (V.int ((rawOf z kn lk sh).passes + 1)) (rawF R { rawOf z kn lk sh with lk := lk' }) = rawF R { rawOf z kn lk sh with lk := lk', passes := (rawOf z kn lk sh).passes + 1 } := rP_passes
      rw [ep]
      have sb3 := sb.trans (but_of (o := .ins CR R.dx (rawF R { rawOf z kn lk sh with lk := lk', passes := (rawOf z kn lk sh).passes + 1 })) R.a_mem)
      generalize hH3 : upd H2 R.a (.ins CR R.dx (rawF R { rawOf z kn lk sh with lk := lk', passes := (rawOf z kn lk sh).passes + 1 })) = H3 at ra3 sb3 ⊢
      refine ⟨_, rfl, R.a, R.dx, _, rfl, ra3.ins, rF_no_end_turn, _, rfl, R.a, CR, R.dx, _, _, rfl, ra3.ins, T.cl, T.passes, rF_passes, _, rfl, R.a, CR, R.dx, _, _, rfl, ra3.ins, T.cl, T.players, rF_players, rfl, ?_⟩
      have g2 := ok.going2 ho
      have tst : decide (V.int ((rawOf z kn lk sh).passes + 1) = V.int (rawOf z kn lk sh).players) = decide (z.players ≤ z.passes + 1) := by
        show decide (V.int (((z.passes : Nat) : Int) + 1) = V.int ((z.left.length : Nat) : Int)) = decide (z.left.length ≤ z.passes + 1)
        by_cases w : z.left.length ≤ z.passes + 1
        · rw [decide_eq_true w]
          refine decide_eq_true ?_
          congr 1
          omega
        · rw [decide_eq_false w]
          refine decide_eq_false fun y => ?_
          injection y with y
          omega
      refine ⟨R, _, decide (z.players ≤ z.passes + 1), by rw [← tst]; rfl, ra3, fun _ => ?_, fun H7 sb7 ra7 => ?_⟩
      · show (0 : Int) < ((z.left.length : Nat) : Int)
        have := ok.few.1
        omega
      · refine q H7 ((but_same s1 _).trans (sb3.trans sb7)) ⟨kn, lk', sh, hkn, ⟨fun k n => ?_, part.keys, part.once⟩, hsh, ?_⟩
        · rw [part.val]
          have la := lacks_at (passed_by z e) ok k n
          rw [Bool.eq_iff_iff, List.contains_iff_mem, la]
          simp
        · have okp := ok_pass ok ho le
          have eqr : rawOf (passedBy z e) kn lk' sh = { rawOf z kn lk sh with lk := lk', passes := (rawOf z kn lk sh).passes + 1, turn := if decide (z.players ≤ z.passes + 1) = true then -1 else ((rawOf z kn lk sh).turn + 1) % (rawOf z kn lk sh).players } := by
            have e3 : hid (passedBy z e) = hid z := by rw [okp.hid, ok.hid, unseen_passed (passed_by z e)]
            have e4 : (passedBy z e).caps = z.caps := caps_passed (passed_by z e)
            have e5 : (if (passedBy z e).over = true then (-1 : Int) else ((passedBy z e).who : Int)) = if decide (z.players ≤ z.passes + 1) = true then -1 else ((if z.over = true then (-1 : Int) else (z.who : Int)) + 1) % (z.left.length : Int) := by
              show (if decide (z.players ≤ z.passes + 1) = true then (-1 : Int) else ((z.next : Nat) : Int)) = _
              rw [ho, if_neg Bool.false_ne_true]
              congr 1
            unfold rawOf
            rw [e3, e4, e5]
            rfl
          rw [eqr]
          exact ra7
end
end Dm
/-! ## DmShow -/
/-! Hands that are shown. -/
namespace Dm
open PySem PySem.Spec PyProof.Rows L2
open Kg86 (Tile full State)
/-! ### what is known, one tile more -/
theorem once_len : ∀ (l : List (Tile × Nat)) (t : Tile), (l.map (·.1)).Nodup → t ∈ l.map (·.1) → (l.filter fun z => z.1 != t).length + 1 = l.length
  | [], _, _, m => absurd m (by simp)
  | a :: r, t, hn, hm => by
    have hn' : a.1 ∉ r.map (·.1) ∧ (r.map (·.1)).Nodup := List.nodup_cons.mp hn
    by_cases e : a.1 = t
    · have rest : r.filter (fun z => z.1 != t) = r := by
        rw [List.filter_eq_self]
        intro z hz
        have : z.1 ≠ t := fun w => hn'.1 (List.mem_map.mpr ⟨z, hz, w.trans e.symm⟩)
        simpa using this
      rw [List.filter_cons_of_neg (by simp [e]), rest, List.length_cons]
    · have hm' : t ∈ r.map (·.1) := by
        rcases List.mem_cons.mp hm with z | z
        · exact absurd z.symm e
        · exact z
      rw [List.filter_cons_of_pos (by simpa using e), List.length_cons, List.length_cons, once_len r t hn'.2 hm']
theorem kn_note {kn : List (List Key × V)} {known : List (Tile × Nat)} (h : KnRel kn known) (hk : (known.map (·.1)).Nodup) (t : Tile) (k : Nat) : KnRel (putK kn (tileK t) (nV k)) ((known.filter fun z => z.1 != t) ++ [(t, k)]) := by
  have no : ((known.filter fun z => z.1 != t).any fun z => z.1 == t) = false := by
    rw [List.any_eq_false]
    intro z hz q
    have a := (List.mem_filter.mp hz).2
    have b : z.1 = t := by simpa using q
    rw [b] at a
    simp at a
  refine ⟨fun u => ?_, ?_, ?_⟩
  · rw [valV_put]
    have f := find_snoc (x := u) (k := k) no
    have f2 : (((known.filter fun z => z.1 != t) ++ [(t, k)]).find? fun y => y.1 == u).map (fun x => nV x.2) = ((((known.filter fun z => z.1 != t) ++ [(t, k)]).find? fun y => y.1 == u).map (·.2)).map nV := by
      rw [Option.map_map]
      rfl
    rw [f2, f]
    by_cases e : u = t
    · rw [if_pos (by rw [e]), if_pos e]
      rfl
    · rw [if_neg fun z => e (tileK_inj z), if_neg e, h.val, find_filter _ e, Option.map_map]
      rfl
  · rw [List.length_append]
    have hl := h.len
    cases v : valV kn (tileK t) with
    | none =>
      have hf : known.find? (fun x => x.1 == t) = none := by
        rw [h.val] at v
        cases q : known.find? fun x => x.1 == t with
        | none => rfl
        | some x => rw [q] at v; exact absurd v (by simp)
      have same : known.filter (fun z => z.1 != t) = known := by
        rw [List.filter_eq_self]
        intro z hz
        have := List.find?_eq_none.mp hf z hz
        simpa using this
      rw [putK_new _ v, List.length_append, same, hl]
      rfl
    | some y =>
      have mem : t ∈ known.map (·.1) := by
        rw [h.val] at v
        cases q : known.find? fun x => x.1 == t with
        | none => rw [q] at v; exact absurd v (by simp)
        | some x =>
          have e : x.1 = t := by simpa using List.find?_some q
          exact List.mem_map.mpr ⟨x, List.mem_of_find?_eq_some q, e⟩
      have l2 := once_len known t hk mem
      have any : (kn.any fun kv => decide (kv.1 = tileK t)) = true := by
        rw [valV_any, v]
        rfl
      unfold putK
      rw [if_pos any, List.length_map]
      simp
      omega
  · rcases keys_putK (kvs := kn) (k := tileK t) (v := nV k) with ⟨_, e⟩ | ⟨m, e⟩
    · rw [e]
      exact h.once
    · rw [e]
      exact nodup_snoc h.once m
/-- what is known behind some tiles of a hand -/
def knownBy (known : List (Tile × Nat)) (r : List Tile) (k : Nat) : List (Tile × Nat) := (known.filter fun z => !r.contains z.1) ++ r.map fun t => (t, k)
theorem knownBy_snoc (known : List (Tile × Nat)) {r : List Tile} {t : Tile} (k : Nat) (h : t ∉ r) : knownBy known (r ++ [t]) k = ((knownBy known r k).filter fun z => z.1 != t) ++ [(t, k)] := by
  unfold knownBy
  rw [List.filter_append, List.filter_filter, List.map_append, ← List.append_assoc]
  congr 1
  congr 1
  · apply List.filter_congr
    intro z _
    have : (r ++ [t]).contains z.1 = (r.contains z.1 || z.1 == t) := by
      rw [List.contains_append]
      congr 1
      show (z.1 == t || false) = _
      rw [Bool.or_false]
    rw [this]
    cases r.contains z.1 <;> cases q : z.1 == t <;> simp [bne, q]
  · symm
    rw [List.filter_eq_self]
    intro z hz
    obtain ⟨u, hu, rfl⟩ := List.mem_map.mp hz
    have : u ≠ t := fun e => h (e ▸ hu)
    simpa using this
theorem knownBy_len (known : List (Tile × Nat)) (r : List Tile) (k : Nat) : (knownBy known r k).length ≤ known.length + r.length := by
  unfold knownBy
  rw [List.length_append, List.length_map]
  have := List.length_filter_le (fun z : Tile × Nat => !r.contains z.1) known
  omega
theorem knownBy_once {known : List (Tile × Nat)} {r : List Tile} {k : Nat} (h : (known.map (·.1)).Nodup) (hr : r.Nodup) : ((knownBy known r k).map (·.1)).Nodup := by
  unfold knownBy
  rw [List.map_append, List.map_map, List.nodup_append]
  refine ⟨h.sublist (List.Sublist.map _ List.filter_sublist), ?_, ?_⟩
  · have : r.map ((fun x : Tile × Nat => x.1) ∘ fun t => (t, k)) = r := by
      have e : ((fun x : Tile × Nat => x.1) ∘ fun t => (t, k)) = id := rfl
      rw [e, List.map_id]
    rw [this]
    exact hr
  · intro a ha b hb e
    obtain ⟨z, hz, rfl⟩ := List.mem_map.mp ha
    obtain ⟨t, ht, rfl⟩ := List.mem_map.mp hb
    have q := (List.mem_filter.mp hz).2
    have e' : z.1 = t := e
    rw [e'] at q
    simp at q
    exact q ht
theorem lookup_snoc {α : Type} : ∀ (l : List (Nat × α)) (k j : Nat) (x : α), l.lookup k = none → (l ++ [(k, x)]).lookup j = if j = k then some x else l.lookup j
  | [], k, j, x, _ => by
    by_cases e : j = k
    · subst e
      simp [List.lookup]
    · rw [if_neg e]
      have : (j == k) = false := beq_eq_false_iff_ne.mpr e
      simp [List.lookup, this]
  | a :: r, k, j, x, h => by
    have hk : (k == a.1) = false := by
      by_cases e : k = a.1
      · rw [e] at h
        simp [List.lookup] at h
      · exact beq_eq_false_iff_ne.mpr e
    have hr : r.lookup k = none := by
      simpa [List.lookup, hk] using h
    have ih := lookup_snoc r k j x hr
    show List.lookup j (a :: (r ++ [(k, x)])) = _
    by_cases e : j = a.1
    · have : (j == a.1) = true := by simp [e]
      have ne : ¬ j = k := fun z => by
        rw [← z, this] at hk
        exact absurd hk (by decide)
      rw [if_neg ne]
      simp [List.lookup, this]
    · have : (j == a.1) = false := beq_eq_false_iff_ne.mpr e
      simp only [List.lookup, this]
      exact ih
theorem sh_put {sh : List (Key × V)} {shown : List (Nat × List Tile)} (h : ShRel sh shown) {k : Nat} {r : List Tile} (hn : shown.lookup k = none) : ShRel (putK sh (Sum.inl (k : Int)) (nV (Kg86.pips r))) (shown ++ [(k, r)]) := by
  have none : valV sh (Sum.inl (k : Int)) = none := by
    rw [h.val, hn]
    rfl
  refine ⟨fun j => ?_, ?_⟩
  · rw [valV_put, lookup_snoc shown k j r hn]
    by_cases e : j = k
    · subst e
      rw [if_pos rfl, if_pos rfl]
      rfl
    · rw [if_neg e, if_neg, h.val]
      intro z
      injection z with z
      exact e (by omega)
  · rw [putK_new _ none, List.length_append, List.length_append, h.len]
    rfl
theorem shown_short {s : State} (h : Ok s) : s.shown.length ≤ s.left.length := by
  have := nodup_len (s.shown.map (·.1)) (List.range s.left.length) h.shownOnce fun x hx => by
    obtain ⟨e, he, rfl⟩ := List.mem_map.mp hx
    exact List.mem_range.mpr (h.shownIn e he)
  rw [List.length_map, List.length_range] at this
  exact this
theorem not_in_lookup {α : Type} : ∀ (l : List (Nat × α)) (k : Nat), l.lookup k = none ↔ k ∉ l.map (·.1)
  | [], k => by simp
  | a :: r, k => by
    have ih := not_in_lookup r k
    by_cases e : k = a.1
    · subst e
      simp [List.lookup]
    · have : (k == a.1) = false := beq_eq_false_iff_ne.mpr e
      simp only [List.lookup, this, List.map_cons, List.mem_cons]
      rw [ih]
      constructor
      · rintro h (w | w)
        · exact e w
        · exact h w
      · intro h w
        exact h (.inr w)
/-- all are shown -/
theorem all_shown {s : State} (h : Ok s) (hl : s.shown.length = s.left.length) {k : Nat} (hk : k < s.left.length) : ∃ r, s.shown.lookup k = some r := by
  cases e : s.shown.lookup k with
  | some r => exact ⟨r, rfl⟩
  | none =>
    have nk := (not_in_lookup _ _).mp e
    have := nodup_len (s.shown.map (·.1)) ((List.range s.left.length).erase k) h.shownOnce fun x hx => by
      have hx' : x < s.left.length := by
        obtain ⟨e, he, rfl⟩ := List.mem_map.mp hx
        exact h.shownIn e he
      exact (List.mem_erase_of_ne (fun z : x = k => nk (by rw [← z]; exact hx))).mpr (List.mem_range.mpr hx')
    rw [List.length_map, List.length_erase_of_mem (List.mem_range.mpr hk), List.length_range] at this
    omega

/-! ### note_hand -/
def spNoteHand (CR : Addr) : Sp := fun vs H Q _ => ∃ (A : RA) (s : State) (k : Nat) (h : Addr) (hs : List V) (r : List Tile), vs = [.ref A.a, nV k, .ref h] ∧ Ok s ∧ RoundAt CR H A s ∧ H h = some (.lst hs) ∧ h ∉ A.all ∧ TilesAt H hs r ∧ r.Nodup ∧ (∀ t ∈ r, t ∈ s.unseen) ∧
  s.shown.lookup k = none ∧ ∀ H' : Hp, SameBut A.all H H' → RoundAt CR H' A (shownBy s k r) → Q .non H'
section
variable {P : Program} {w : World} {K : PySem.W.Frag} {mg : Str → Option Value} {base : Heap} {CR : Addr} {f : Addr} {fd : FuncData}
theorem tiles_but {S : List Addr} {H H' : Hp} {vs : List V} {ts : List Tile} (h : TilesAt H vs ts) (s : SameBut S H H') (n : ∀ p ∈ S, ∀ xs, H p ≠ some (.tup xs)) : TilesAt H' vs ts :=
  h.keep fun b xs e => s _ _ e fun m => n b m xs e
theorem RawAt.no_tup {H : Hp} {A : RA} {r : Raw} (h : RawAt CR H A r) : ∀ p ∈ A.all, ∀ xs, H p ≠ some (.tup xs) := by
  intro p hp xs e
  unfold RA.all at hp
  simp only [List.mem_cons, List.not_mem_nil, or_false] at hp
  obtain ⟨_, h1, _⟩ := h.ln
  obtain ⟨_, h2, _⟩ := h.hd
  rcases hp with w | w | w | w | w | w | w <;> rw [w] at e
  · rw [h.ins] at e; cases e
  · rw [h1] at e; cases e
  · rw [h2] at e; cases e
  · rw [h.rm] at e; cases e
  · rw [h.kn] at e; cases e
  · rw [h.lk] at e; cases e
  · rw [h.sh] at e; cases e
theorem ok_note_hand (F : Fun K "note_hand" "Round.note_hand" s_r_note_hand f fd) (T : TxtR K mg CR) (M : HasM P w K mg base CR "note_known" 1 ["self", "tile", "place"] (spNoteKnown CR)) (C : HasF P w K mg base "points_of" 1 ["hand"] (spPoints K)) :
    FnOk P w K mg base CX0 2 f fd ["self", "player", "hand"] (spNoteHand CR) := by
  obtain ⟨f1, fd1, m1, G1, b1⟩ := M
  obtain ⟨f2, fd2, m2, kp2, G2, b2⟩ := C
  refine F.ok sc_r_note_hand (fun vs H Q E h => ?_) (fun cdv A outer s H vs Q E hr h => ?_)
  · obtain ⟨A, s, k, h, hs, r, rfl, _⟩ := h
    rfl
  · obtain ⟨R, z, k, h, hs, r, rfl, ok, rat, hh, nh, hat, nd, hun, hsn, q⟩ := h
    have hr1 : Room 1 _ := hr.mono (by decide)
    have hu := hu_of hr
    refine ⟨_, pss_cons (ps_for PassesOwn.never rfl (pi_list (pv 2)) (pg_name (i := 3) sc_r_note_hand.nd rfl (Or.inl rfl))
        (pss_one (ps_expr (pe_meth (pv 0) T.cl m1 G1 hr1 b1 .nil pass0 (pa_cons (pv 3) (pa_cons (pv 1) pa_nil))))))
      (pss_one (ps_dput hu (pe_fld (pv 0) rfl) (pv 1) (pe_call G2 hr1 rfl m2 kp2 b2 .nil pass0 (pa_cons (pv 2) pa_nil)) rfl)), ?_⟩
    obtain ⟨kn, lk, sh, hkn, hlk, hsh, ra⟩ := id rat
    have hl : hs.length = r.length := Paired.length hat
    have rs : r.length ≤ 28 := Nat.le_trans (nodup_len r z.unseen nd hun) (unseen_short ok.top)
    refine ⟨_, rfl, h, rfl, ⟨hs, SqL.of hh⟩, ?_⟩
    refine for_it (walk_list (K := K) (a := h) (xs := hs))
      (fun i σ H' => ∃ (v3 : Option V) (kn' : List (List Key × V)), σ = [some (.ref R.a), some (nV k), some (.ref h), v3] ∧ SameBut R.all H H' ∧ KnRel kn' (knownBy z.known (r.take i) k) ∧ RawAt CR H' R { rawOf z kn lk sh with kn := kn' })
      ⟨none, kn, rfl, SameBut.refl _ _, by
        have e : knownBy z.known (r.take 0) k = z.known := by
          unfold knownBy
          simp
        rw [e]
        exact hkn, ra⟩ (fun i σ H' _ ⟨_, _, _, sb, _⟩ => SqL.of (sb _ _ hh nh)) ?_ ?_
    · rintro i x σ H1 H2 hi ⟨v3, kn', rfl, sb, hk', ra1⟩ ⟨rfl, hx⟩
      have hat1 : TilesAt H2 hs r := tiles_but hat sb ra.no_tup
      obtain ⟨t, ht, htp⟩ := paired_get hat1 hx
      have fresh : t ∉ r.take i := by
        intro w
        obtain ⟨j, hj, ej⟩ := List.mem_iff_getElem.mp w
        have hji : j < i := by
          rw [List.length_take] at hj
          omega
        have hjt : r[j]? = some t := by
          rw [List.getElem_take] at ej
          rw [← ej]
          exact List.getElem?_eq_getElem _
        have jlt : j < r.length := (List.getElem?_eq_some_iff.mp hjt).1
        have := (List.getElem?_inj jlt nd).mp (hjt.trans ht.symm)
        omega
      have len : kn'.length < sizeLine := by
        rw [hk'.len]
        have h1 := knownBy_len z.known (r.take i) k
        have h2 := known_short ok
        rw [List.length_take] at h1
        exact Nat.lt_of_le_of_lt (by omega : _ ≤ 100) (by decide)
      refine ⟨_, rfl, R.a, R.dx, _, rfl, ra1.ins, rF_no_note_known, _, rfl, _, rfl, R, _, t, x, k, rfl, ra1, htp, len, fun H3 sb3 ra3 => ?_⟩
      refine ⟨_, _, rfl, sb.trans sb3, ?_, ra3⟩
      have tk : r.take (i + 1) = r.take i ++ [t] := take_snoc ht
      rw [tk, knownBy_snoc z.known k fresh]
      refine kn_note hk' (knownBy_once ok.knownOnce (nd.sublist (List.take_sublist i r))) t k
    · rintro σ H1 ⟨v3, kn', rfl, sb, hk', ra1⟩
      rw [hl, List.take_length] at hk'
      have hat1 : TilesAt H1 hs r := tiles_but hat sb ra.no_tup
      refine ⟨_, rfl, h, hs, r, rfl, sb _ _ hh nh, hat1, by omega, fun H2 s2 => ?_⟩
      have ra2 := ra1.same s2
      have slen : sh.length < sizeLine := by
        rw [hsh.len]
        have h1 := shown_short ok
        have h2 := ok.few.2
        exact Nat.lt_of_le_of_lt (by omega : _ ≤ 100) (by decide)
      refine ⟨_, rfl, R.a, CR, R.dx, _, _, rfl, ra2.ins, T.cl, T.shown, rF_shown, _, rfl, R.sh, _, rfl, DPut.k (k := Sum.inl (k : Int)) ra2.sh slen, ?_⟩
      refine q _ ((sb.trans (but_same s2 _)).trans (but_of R.sh_mem)) ⟨kn', lk, _, hk', hlk, sh_put hsh hsn, ?_⟩
      exact ra2.setSh _
end
end Dm
/-! ## DmScore -/
/-! Who has won. -/
namespace Dm
open PySem PySem.Spec PyProof.Rows L2
open Kg86 (Tile full State)
def winnerI (s : State) : Int := match s.winner with
  | some k => (k : Int)
  | none => -1
theorem fold_min : ∀ (l : List Nat) (a : Nat), (l.foldl min a = a ∨ l.foldl min a ∈ l) ∧ l.foldl min a ≤ a ∧ ∀ y ∈ l, l.foldl min a ≤ y
  | [], a => ⟨.inl rfl, Nat.le_refl _, fun y hy => absurd hy (by simp)⟩
  | b :: r, a => by
    obtain ⟨h1, h2, h3⟩ := fold_min r (min a b)
    show (r.foldl min (min a b) = a ∨ r.foldl min (min a b) ∈ b :: r) ∧ r.foldl min (min a b) ≤ a ∧ ∀ y ∈ b :: r, r.foldl min (min a b) ≤ y
    refine ⟨?_, by omega, fun y hy => ?_⟩
    · rcases h1 with e | e
      · by_cases c : a ≤ b
        · exact .inl (by rw [e]; omega)
        · exact .inr (List.mem_cons.mpr (.inl (by rw [e]; omega)))
      · exact .inr (List.mem_cons.mpr (.inr e))
    · rcases List.mem_cons.mp hy with e | e
      · rw [e]
        omega
      · exact h3 y e
theorem least_of {l : List Nat} (h : l ≠ []) : l.foldl min (l.headD 0) ∈ l ∧ ∀ y ∈ l, l.foldl min (l.headD 0) ≤ y := by
  cases l with
  | nil => exact absurd rfl h
  | cons a r =>
    obtain ⟨h1, h2, h3⟩ := fold_min (a :: r) a
    refine ⟨?_, h3⟩
    rcases h1 with e | e
    · show (a :: r).foldl min a ∈ _
      rw [e]
      exact List.mem_cons.mpr (.inl rfl)
    · exact e
theorem count_cast (m : Nat) : ∀ l : List Nat, (l.map fun (n : Nat) => (n : Int)).count (m : Int) = (l.filter fun n => n == m).length
  | [] => rfl
  | a :: r => by
    have ih := count_cast m r
    rw [List.map_cons, List.count_cons, ih]
    by_cases e : a = m
    · subst e
      simp
    · have e1 : ((a : Int) == (m : Int)) = false := beq_eq_false_iff_ne.mpr (by omega)
      have e2 : (a == m) = false := beq_eq_false_iff_ne.mpr e
      rw [e1, List.filter_cons_of_neg (by rw [e2]; exact Bool.false_ne_true)]
      simp
theorem first_idx {p : Nat → Bool} : ∀ (l : List Nat) (i : Nat), i < l.length → p (l.getD i 0) = true → (∀ j, j < i → p (l.getD j 0) = false) → l.findIdx? p = some i
  | [], i, h, _, _ => absurd h (Nat.not_lt_zero i)
  | a :: r, 0, _, h, _ => by
    have : p a = true := h
    simp [List.findIdx?_cons, this]
  | a :: r, i + 1, hi, h, hn => by
    have h0 : p a = false := hn 0 (Nat.succ_pos i)
    have ih := first_idx r i (by simpa using hi) (by simpa using h) fun j hj => by simpa using hn (j + 1) (Nat.succ_lt_succ hj)
    simp [List.findIdx?_cons, h0, ih]
theorem no_idx {p : Nat → Bool} : ∀ l : List Nat, (∀ j, j < l.length → p (l.getD j 0) = false) → l.findIdx? p = none
  | [], _ => rfl
  | a :: r, h => by
    have h0 : p a = false := h 0 (by simp)
    have ih := no_idx r fun j hj => by simpa using h (j + 1) (by simpa using hj)
    simp [List.findIdx?_cons, h0, ih]
theorem first_of {l : List Nat} {m : Nat} (h : m ∈ l) : ∃ j, j < l.length ∧ l.getD j 0 = m ∧ ∀ i, i < j → l.getD i 0 ≠ m := by
  induction l with
  | nil => exact absurd h (by simp)
  | cons a r ih =>
    by_cases e : a = m
    · exact ⟨0, by simp, by simpa using e, fun i hi => absurd hi (Nat.not_lt_zero i)⟩
    · have hr : m ∈ r := by
        rcases List.mem_cons.mp h with z | z
        · exact absurd z.symm e
        · exact z
      obtain ⟨j, h1, h2, h3⟩ := ih hr
      refine ⟨j + 1, by simpa using h1, by simpa using h2, fun i hi => ?_⟩
      cases i with
      | zero => simpa using e
      | succ i => simpa using h3 i (by omega)
theorem winner_out {s : State} {i : Nat} (hi : i < s.left.length) (h0 : s.left.getD i 0 = 0) (hn : ∀ j, j < i → s.left.getD j 0 ≠ 0) : winnerI s = (i : Int) := by
  have e : s.left.findIdx? (fun n => n == 0) = some i := first_idx s.left i hi (by rw [h0]; rfl) fun j hj => beq_eq_false_iff_ne.mpr (hn j hj)
  unfold winnerI State.winner
  rw [e]
theorem winner_in {s : State} (hn : ∀ j, j < s.left.length → s.left.getD j 0 ≠ 0) : s.winner = if (s.sums.filter fun n => n == s.sums.foldl min (s.sums.headD 0)).length = 1 then s.sums.findIdx? fun n => n == s.sums.foldl min (s.sums.headD 0) else none := by
  have e : s.left.findIdx? (fun n => n == 0) = none := no_idx s.left fun j hj => beq_eq_false_iff_ne.mpr (hn j hj)
  unfold State.winner
  rw [e]
theorem sums_len (s : State) : s.sums.length = s.left.length := by simp [State.sums, State.players]

def spHasPlayer (CR : Addr) : Sp := fun vs H Q _ => ∃ (A : RA) (s : State) (k : Int), vs = [.ref A.a, .int k] ∧ RoundAt CR H A s ∧ Q (.bl (decide (0 ≤ k) && decide (k < (s.left.length : Int)))) H
def spAllShown (CR : Addr) : Sp := fun vs H Q _ => ∃ (A : RA) (s : State), vs = [.ref A.a] ∧ RoundAt CR H A s ∧ Q (.bl (decide (s.shown.length = s.left.length))) H
def spCounts (CR : Addr) : Sp := fun vs H Q _ => ∃ (A : RA) (s : State), vs = [.ref A.a] ∧ Ok s ∧ RoundAt CR H A s ∧ s.shown.length = s.left.length ∧
  ∀ (H' : Hp) (p : Addr), Same H H' → H p = none → H' p = some (.lst (nsV s.sums)) → Q (.ref p) H'
def spWinner (CR : Addr) : Sp := fun vs H Q _ => ∃ (A : RA) (s : State), vs = [.ref A.a] ∧ Ok s ∧ RoundAt CR H A s ∧ s.shown.length = s.left.length ∧ ∀ H' : Hp, Same H H' → Q (.int (winnerI s)) H'
section
variable {P : Program} {w : World} {K : PySem.W.Frag} {mg : Str → Option Value} {base : Heap} {CR : Addr} {f : Addr} {fd : FuncData}
theorem ok_has_player (F : Fun K "has_player" "Round.has_player" s_r_has_player f fd) (T : TxtR K mg CR) : FnOk P w K mg base CX0 1 f fd ["self", "player"] (spHasPlayer CR) := by
  refine F.ok sc_r_has_player (fun vs H Q E h => ?_) (fun cdv A outer s H vs Q E hr h => ?_)
  · obtain ⟨A, s, k, rfl, _⟩ := h
    rfl
  · obtain ⟨R, z, k, rfl, ⟨kn, lk, sh, hkn, hlk, hsh, ra⟩, q⟩ := h
    refine ⟨_, pss_one (ps_ret (pe_chain op_le op_lt pe_int (pv 1) (pe_fld (pv 0) rfl))), ?_⟩
    refine ⟨_, rfl, 0, k, rfl, rfl, _, rfl, ?_⟩
    by_cases c : (0 : Int) ≤ k
    · rw [decide_eq_true c] at q ⊢
      refine iteT ⟨_, rfl, R.a, CR, R.dx, _, _, rfl, ra.ins, T.cl, T.players, rF_players, _, _, rfl, rfl, ?_⟩
      rw [Bool.true_and] at q
      exact q
    · rw [decide_eq_false c] at q ⊢
      exact iteF q
theorem ok_all_shown (F : Fun K "is_all_shown" "Round.is_all_shown" s_r_is_all_shown f fd) (T : TxtR K mg CR) : FnOk P w K mg base CX0 1 f fd ["self"] (spAllShown CR) := by
  refine F.ok sc_r_is_all_shown (fun vs H Q E h => ?_) (fun cdv A outer s H vs Q E hr h => ?_)
  · obtain ⟨A, s, rfl, _⟩ := h
    rfl
  · obtain ⟨R, z, rfl, ⟨kn, lk, sh, hkn, hlk, hsh, ra⟩, q⟩ := h
    refine ⟨_, pss_one (ps_ret (pe_cmpR op_eq (pe_callB call_lenD (by rfl) T.len PySem.boot_len (pa_cons (pe_fld (pv 0) rfl) pa_nil)) (pe_fld (pv 0) rfl) (nomark _))), ?_⟩
    refine ⟨_, rfl, R.a, CR, R.dx, _, _, rfl, ra.ins, T.cl, T.shown, rF_shown, R.sh, _, rfl, ra.sh, _, rfl, R.a, CR, R.dx, _, _, rfl, ra.ins, T.cl, T.players, rF_players, rfl, ?_⟩
    have tst : decide (V.int ((sh.length : Nat) : Int) = V.int ((z.left.length : Nat) : Int)) = decide (z.shown.length = z.left.length) := by
      rw [hsh.len]
      by_cases w : z.shown.length = z.left.length
      · rw [decide_eq_true w]
        exact decide_eq_true (by rw [w])
      · rw [decide_eq_false w]
        refine decide_eq_false fun y => w ?_
        injection y with y
        omega
    rw [← tst] at q
    exact q
theorem ok_counts (F : Fun K "counts" "Round.counts" s_r_counts f fd) (T : TxtR K mg CR) : FnOk P w K mg base CX0 1 f fd ["self"] (spCounts CR) := by
  refine F.ok sc_r_counts (fun vs H Q E h => ?_) (fun cdv A outer s H vs Q E hr h => ?_)
  · obtain ⟨A, s, rfl, _⟩ := h
    rfl
  · obtain ⟨R, z, rfl, ok, rat, hall, q⟩ := h
    have hu := hu_of hr
    obtain ⟨kn, lk, sh, hkn, hlk, hsh, ra⟩ := id rat
    refine ⟨_, pss_one (ps_ret (pe_lc (own := [("player", 1)]) (g := gName 1) (te := tDGet (tFld K (tVar 0) "shown") (tVar 1)) rfl sc_r_counts.nd (pi_range1 rfl T.range (pa_cons (pe_fld (pv 0) rfl) pa_nil))
        (blkOk_by (own := [("player", 1)]) (N := ["self", "player"]) (sc := defScope s_r_counts) (by decide +kernel))
        (fun _ _ _ _ _ => pg_name (i := 1) sc_r_counts.nd rfl (Or.inl rfl)) (fun _ _ _ _ _ => pts_nil)
        (fun _ _ _ _ _ => pe_dget hu (pe_fld (pv 0) rfl) (pv 1) (fun _ _ => rfl)))), ?_⟩
    refine ⟨_, rfl, R.a, CR, R.dx, _, _, rfl, ra.ins, T.cl, T.players, rF_players, _, rfl, ?_, ?_, ?_⟩
    · show -(2 ^ 62) ≤ ((z.left.length : Nat) : Int)
      omega
    · show ((z.left.length : Nat) : Int) < 2 ^ 62
      have := ok.few.2
      omega
    intro D hD
    show ∃ W : Nat → Nat → Hp → Prop, _
    refine lc_range (lo := 0) (n := (((z.left.length : Nat) : Int)).toNat) (fun i H' => Same H H' ∧ H' D = some (.lst (nsV ((List.range i).map fun k => Kg86.pips ((z.shown.lookup k).getD [])))))
      ⟨same_new hD, upd_same⟩ ?_ ?_
    · rintro i H1 hi ⟨sm, hl⟩
      have hi' : i < z.left.length := by omega
      obtain ⟨r, hr⟩ := all_shown ok hall hi'
      refine ⟨rfl, ?_⟩
      refine ⟨_, rfl, R.a, CR, R.dx, _, _, rfl, sm _ _ ra.ins, T.cl, T.shown, rF_shown, _, rfl, R.sh, nV (Kg86.pips r), rfl, ?_, ?_⟩
      · have g := DGet.k (k := Sum.inl ((i : Nat) : Int)) (sm _ _ ra.sh)
        have e : valV sh (Sum.inl ((i : Nat) : Int)) = some (nV (Kg86.pips r)) := by
          rw [hsh.val, hr]
          rfl
        have e2 : kV (Sum.inl ((i : Nat) : Int)) = V.int (0 + (i : Int)) := by
          rw [Int.zero_add]
          rfl
        rw [show (rawOf z kn lk sh).sh = sh from rfl, e, e2] at g
        exact g
      · refine ⟨_, hl, ?_, fun b o w2 => ?_, ?_⟩
        · rw [nsV_len, List.length_map, List.length_range]
          have := ok.few.2
          exact Nat.lt_of_le_of_lt (by omega : i ≤ 100) (by decide)
        · rw [upd_ne (ne_of_none w2 hD)]
          exact sm _ _ w2
        · rw [upd_same, List.range_succ, List.map_append]
          unfold nsV
          rw [List.map_append]
          show some (HO.lst (_ ++ [nV (Kg86.pips r)])) = some (HO.lst (_ ++ [nV (Kg86.pips ((z.shown.lookup i).getD []))]))
          rw [hr]
          rfl
    · rintro H1 ⟨sm, hl⟩
      exact q H1 D sm hD hl
theorem ok_winner (F : Fun K "winner" "Round.winner" s_r_winner f fd) (T : TxtR K mg CR) (T2 : TxtTiles mg) (M : HasM P w K mg base CR "counts" 1 ["self"] (spCounts CR)) : FnOk P w K mg base CX0 2 f fd ["self"] (spWinner CR) := by
  obtain ⟨f1, fd1, m1, G1, b1⟩ := M
  refine F.ok sc_r_winner (fun vs H Q E h => ?_) (fun cdv A outer s H vs Q E hr h => ?_)
  · obtain ⟨A, s, rfl, _⟩ := h
    rfl
  · obtain ⟨R, z, rfl, ok, rat, hall, q⟩ := h
    have hr1 : Room 1 _ := hr.mono (by decide)
    obtain ⟨kn, lk, sh, hkn, hlk, hsh, ra⟩ := id rat
    refine ⟨_, pss_cons (ps_for PassesOwn.never rfl (pi_range1 rfl T.range (pa_cons (pe_fld (pv 0) rfl) pa_nil)) (pg_name (i := 1) sc_r_winner.nd rfl (Or.inl rfl))
        (pss_one (ps_if (pt_cmpR op_eq (pe_ix ix_list (pe_fld (pv 0) rfl) (pv 1) (fun _ _ => rfl)) pe_int (nomark _)) (pss_one (ps_ret (pv 1))) pss_nil)))
      (pss_cons (ps_set (i := 2) sc_r_winner.nd rfl (Or.inl rfl) (pe_meth0 (pv 0) T.cl m1 G1 hr1 b1 .nil pass0))
      (pss_cons (ps_set (i := 3) sc_r_winner.nd rfl (Or.inl rfl) (pe_callB (cr_min rfl) (by rfl) T2.min (by decide +kernel) (pa_cons (pv 2) pa_nil)))
      (pss_cons (ps_if (pt_cmpR op_gt (pe_bm PySem.F.plainAttrs_list PySem.F.slot_list_count PySem.F.type_list_count mt_lcount (pv 2) (pa_cons (pv 3) pa_nil)) pe_int (nomark _)) (pss_one (ps_ret (pe_un un_neg pe_int))) pss_nil)
      (pss_one (ps_ret (pe_bm PySem.F.plainAttrs_list PySem.F.slot_list_index PySem.F.type_list_index mt_index (pv 2) (pa_cons (pv 3) pa_nil))))))), ?_⟩
    refine ⟨_, rfl, R.a, CR, R.dx, _, _, rfl, ra.ins, T.cl, T.players, rF_players, _, rfl, ?_, ?_, ?_⟩
    · show -(2 ^ 62) ≤ ((z.left.length : Nat) : Int)
      omega
    · show ((z.left.length : Nat) : Int) < 2 ^ 62
      have := ok.few.2
      omega
    refine for_it (walk_range (lo := 0) (n := ((z.left.length : Nat) : Int).toNat))
      (fun i σ H' => ∃ v1 v2 v3 : Option V, σ = [some (.ref R.a), v1, v2, v3] ∧ Same H H' ∧ ∀ j, j < i → z.left.getD j 0 ≠ 0)
      ⟨none, none, none, rfl, Same.refl H, fun j hj => absurd hj (Nat.not_lt_zero j)⟩ (fun _ _ _ _ _ => True.intro) ?_ ?_
    · rintro i x σ H1 H2 hi ⟨v1, v2, v3, rfl, sm, hn⟩ ⟨rfl, ex⟩
      have hi' : i < z.left.length := by omega
      have ex' : x = nV i := by
        rw [ex]
        show V.int (0 + (i : Int)) = V.int (i : Int)
        rw [Int.zero_add]
      subst ex'
      refine ⟨_, rfl, R.a, CR, R.dx, _, _, rfl, sm _ _ ra.ins, T.cl, T.room, rF_room, _, rfl, R.rm, nsV z.caps, _, _, rfl, rfl, SqL.of (sm _ _ ra.rm), atI_nV (by rw [caps_len]; omega), rfl, _, rfl, ?_⟩
      rw [getD_caps hi']
      refine ite2 (fun c => ?_) (fun c => ?_)
      · have e : z.left.getD i 0 = 0 := by
          have := of_decide_eq_true c
          unfold nV at this
          injection this with this
          omega
        refine ⟨_, rfl, ?_⟩
        have g := q H2 sm
        rw [winner_out hi' e hn] at g
        exact g
      · refine ⟨_, _, _, rfl, sm, fun j hj => ?_⟩
        by_cases w : j = i
        · subst w
          intro z0
          exact c (decide_eq_true (by rw [z0]; rfl))
        · exact hn j (by omega)
    · rintro σ H1 ⟨v1, v2, v3, rfl, sm, hn⟩
      have hn' : ∀ j, j < z.left.length → z.left.getD j 0 ≠ 0 := fun j hj => hn j (by omega)
      refine ⟨_, rfl, R.a, R.dx, _, rfl, sm _ _ ra.ins, rF_no_counts, R, z, rfl, ok, rat.same sm, hall, fun H2 p s2 hp0 hp => ?_⟩
      have hp' : H2 p = some (.lst ((z.sums.map fun (n : Nat) => (n : Int)).map V.int)) := by
        rw [hp]
        unfold nsV
        rw [List.map_map]
        rfl
      have ne : z.sums ≠ [] := fun e => by
        have h1 := sums_len z
        rw [e] at h1
        have h2 := ok.few.1
        have h3 : 0 = z.left.length := h1
        omega
      refine ⟨_, rfl, p, _, rfl, SqL.of hp', by rw [List.length_map]; exact List.length_pos_iff.mpr ne, fun m hm hle => ?_⟩
      obtain ⟨l1, l2⟩ := least_of ne
      generalize hM : z.sums.foldl min (z.sums.headD 0) = M at l1 l2
      have em : m = (M : Int) := by
        obtain ⟨n, hn2, rfl⟩ := List.mem_map.mp hm
        have h1 := l2 n hn2
        have h2 := hle (M : Int) (List.mem_map.mpr ⟨M, l1, rfl⟩)
        omega
      subst em
      have win := winner_in hn'
      rw [hM] at win
      refine ⟨_, rfl, .inl ⟨rfl, _, SqL.of hp'⟩, _, rfl, p, _, _, rfl, rfl, SqL.of hp', _, _, rfl, rfl, _, rfl, ?_⟩
      rw [count_cast]
      have g := q H2 (sm.trans s2)
      have pos : 0 < (z.sums.filter fun n => n == M).length := List.length_pos_of_mem (List.mem_filter.mpr ⟨l1, by simp⟩)
      refine ite2 (fun c => ?_) (fun c => ?_)
      · have c' : ¬ (z.sums.filter fun n => n == M).length = 1 := fun e => by
          have := of_decide_eq_true c
          omega
        refine ⟨1, rfl, ?_⟩
        unfold winnerI at g
        rw [win, if_neg c'] at g
        exact g
      · have c' : (z.sums.filter fun n => n == M).length = 1 := by
          have : ¬ (1 : Int) < (((z.sums.filter fun n => n == M).length : Nat) : Int) := fun e => c (decide_eq_true e)
          omega
        obtain ⟨j, j1, j2, j3⟩ := first_of l1
        have fi : z.sums.findIdx? (fun n => n == M) = some j := first_idx z.sums j j1 (by rw [j2]; exact beq_self_eq_true M) fun i hi => beq_eq_false_iff_ne.mpr (j3 i hi)
        unfold winnerI at g
        rw [win, if_pos c', fi] at g
        refine ⟨_, rfl, .inl ⟨rfl, _, SqL.of hp⟩, _, rfl, p, nsV z.sums, nV M, j, nV M, rfl, rfl, SqL.of hp, rfl, flat_nsV _, ?_, by rw [eqV_nV]; simp, fun i z' hi hz' => ?_, ?_⟩
        · rw [nsV_at j1, j2]
        · obtain ⟨n, hn2, rfl⟩ := nsV_get hz'
          rw [eqV_nV]
          refine decide_eq_false fun e => j3 i hi ?_
          rw [List.getD_eq_getElem?_getD, hn2, e]
          rfl
        · exact g
end
end Dm
/-! ## DmInit -/
/-! A new round. -/
namespace Dm
open PySem PySem.Spec PyProof.Rows L2
open Kg86 (Tile full State)
def tilesTo (g : Int) : List Tile := (List.range (g + 1).toNat).flatMap (rowOf g.toNat)
def freshRaw (p e g f : Int) : Raw := ⟨p, g, f, [], tilesTo g, List.replicate p.toNat e.toNat ++ [(tilesTo g).length - p.toNat * e.toNat], [], [], 0, []⟩
def spInit (CR : Addr) : Sp := fun vs H Q _ => ∃ (a dx : Addr) (p e g f : Int), vs = [.ref a, .int p, .int e, .int g, .int f] ∧ H a = some (.ins CR dx []) ∧ (-1 ≤ g ∧ g ≤ 6) ∧ (0 ≤ p ∧ p ≤ 4) ∧ (0 ≤ e ∧ e ≤ 7) ∧ p.toNat * e.toNat ≤ (tilesTo g).length ∧
  ∀ (H' : Hp) (A : RA), A.a = a → RawAt CR H' A (freshRaw p e g f) → (∀ b ∈ A.all, b = a ∨ H b = none) → (∀ b o, H b = some o → b ≠ a → H' b = some o) → Q .non H'
theorem free_but {a x : Addr} {H H' : Hp} (s : SameBut [a] H H') (h : H' x = none) (n : x ≠ a) : H x = none := by
  cases q : H x with
  | none => rfl
  | some o =>
    have := s x o q (by simpa using n)
    rw [h] at this
    cases this
theorem flatten_one (n : Nat) (v : V) : (List.replicate n [v]).flatten = List.replicate n v := by
  induction n with
  | zero => rfl
  | succ n ih =>
    rw [List.replicate_succ, List.flatten_cons, ih, List.replicate_succ]
    rfl
theorem nsV_rep (n m : Nat) : nsV (List.replicate n m) = List.replicate n (nV m) := by
  unfold nsV
  rw [List.map_replicate]
section
variable {P : Program} {w : World} {K : PySem.W.Frag} {mg : Str → Option Value} {base : Heap} {CR : Addr} {f : Addr} {fd : FuncData}
theorem ok_init (F : Fun K "__init__" "Round.__init__" s_r_init f fd) (T : TxtR K mg CR) (C : HasF P w K mg base "all_tiles" 1 ["greatest"] spAll) :
    FnOk P w K mg base CX0 2 f fd ["self", "players", "each", "greatest", "first"] (spInit CR) := by
  obtain ⟨f1, fd1, m1, kp1, G1, b1⟩ := C
  refine F.ok sc_r_init (fun vs H Q E h => ?_) (fun cdv A outer s H vs Q E hr h => ?_)
  · obtain ⟨a, dx, p, e, g, f, rfl, _⟩ := h
    rfl
  · obtain ⟨a, dx, p, e, g, f, rfl, hp, hg, hpl, he, hsm, q⟩ := h
    have hr1 : Room 1 _ := hr.mono (by decide)
    refine ⟨_, pss_cons (ps_fld (pv 0) (pv 1) rfl)
      (pss_cons (ps_fld (pv 0) (pv 3) rfl)
      (pss_cons (ps_fld (pv 0) (pv 4) rfl)
      (pss_cons (ps_fld (pv 0) (pe_lst pa_nil) rfl)
      (pss_cons (ps_fld (pv 0) (pe_call G1 hr1 rfl m1 kp1 b1 .nil pass0 (pa_cons (pv 3) pa_nil)) rfl)
      (pss_cons (ps_fld (pv 0) (pe_op op_cat (pe_op op_rep (pe_lst (pa_cons (pv 2) pa_nil)) (pv 1))
          (pe_lst (pa_cons (pe_op op_sub (pe_callB call_len_seq (by rfl) T.len PySem.boot_len (pa_cons (pe_fld (pv 0) rfl) pa_nil)) (pe_op op_mul (pv 1) (pv 2))) pa_nil))) rfl)
      (pss_cons (ps_fld (pv 0) pe_dnewT rfl)
      (pss_cons (ps_fld (pv 0) pe_dnewT rfl)
      (pss_cons (ps_fld (pv 0) pe_int rfl)
      (pss_one (ps_fld (pv 0) pe_dnewK rfl)))))))))), ?_⟩
    -- players
    refine ⟨_, rfl, _, rfl, a, CR, dx, _, rfl, hp, T.cl, T.players, by show 0 < 1000; decide, ?_⟩
    rw [rS_0]
    have h1 : upd H a (.ins CR dx [("players", V.int p)]) a = some (.ins CR dx [("players", V.int p)]) := upd_same
    have b1' : SameBut [a] H (upd H a (.ins CR dx [("players", V.int p)])) := but_upd
    generalize upd H a (.ins CR dx [("players", V.int p)]) = H1 at h1 b1' ⊢
    -- greatest
    refine ⟨_, rfl, _, rfl, a, CR, dx, _, rfl, h1, T.cl, T.greatest, by show 1 < 1000; decide, ?_⟩
    rw [rS_1]
    have h2 : upd H1 a (.ins CR dx [("players", V.int p), ("greatest", V.int g)]) a = some (.ins CR dx [("players", V.int p), ("greatest", V.int g)]) := upd_same
    have b2' := b1'.trans (but_upd (H := H1) (a := a) (o := .ins CR dx [("players", V.int p), ("greatest", V.int g)]))
    generalize upd H1 a (.ins CR dx [("players", V.int p), ("greatest", V.int g)]) = H2 at h2 b2' ⊢
    -- turn
    refine ⟨_, rfl, _, rfl, a, CR, dx, _, rfl, h2, T.cl, T.turn, by show 2 < 1000; decide, ?_⟩
    rw [rS_2]
    have h3 : upd H2 a (.ins CR dx [("players", V.int p), ("greatest", V.int g), ("turn", V.int f)]) a = some (.ins CR dx [("players", V.int p), ("greatest", V.int g), ("turn", V.int f)]) := upd_same
    have b3' := b2'.trans (but_upd (H := H2) (a := a) (o := .ins CR dx [("players", V.int p), ("greatest", V.int g), ("turn", V.int f)]))
    generalize upd H2 a (.ins CR dx [("players", V.int p), ("greatest", V.int g), ("turn", V.int f)]) = H3 at h3 b3' ⊢
    -- line
    refine ⟨Nat.zero_le _, fun ln hln => ?_⟩
    have sl := same_new (o := .lst []) hln
    have nla : ln ≠ a := (ne_of_none h3 hln).symm
    refine ⟨_, rfl, a, CR, dx, _, rfl, sl _ _ h3, T.cl, T.line, by show 3 < 1000; decide, ?_⟩
    rw [rS_3]
    have h4 : upd (upd H3 ln (.lst [])) a (.ins CR dx [("players", V.int p), ("greatest", V.int g), ("turn", V.int f), ("line", V.ref ln)]) a = some (.ins CR dx [("players", V.int p), ("greatest", V.int g), ("turn", V.int f), ("line", V.ref ln)]) := upd_same
    have l4 : upd (upd H3 ln (.lst [])) a (.ins CR dx [("players", V.int p), ("greatest", V.int g), ("turn", V.int f), ("line", V.ref ln)]) ln = some (.lst []) := by
      rw [upd_ne nla]
      exact upd_same
    have b4' := (b3'.trans (but_same sl [a])).trans (but_upd (H := upd H3 ln (.lst [])) (a := a) (o := .ins CR dx [("players", V.int p), ("greatest", V.int g), ("turn", V.int f), ("line", V.ref ln)]))
    generalize upd (upd H3 ln (.lst [])) a (.ins CR dx [("players", V.int p), ("greatest", V.int g), ("turn", V.int f), ("line", V.ref ln)]) = H4 at h4 l4 b4' ⊢
    -- hidden
    refine ⟨_, rfl, g, rfl, hg.1, hg.2, fun H5 hd hv s5 hd0 hhd htl => ?_⟩
    have nda : hd ≠ a := (ne_of_none h4 hd0).symm
    have ndl : ln ≠ hd := ne_of_none l4 hd0
    refine ⟨_, rfl, a, CR, dx, _, rfl, s5 _ _ h4, T.cl, T.hidden, by show 4 < 1000; decide, ?_⟩
    rw [rS_4]
    have h6 : upd H5 a (.ins CR dx [("players", V.int p), ("greatest", V.int g), ("turn", V.int f), ("line", V.ref ln), ("hidden", V.ref hd)]) a = some (.ins CR dx [("players", V.int p), ("greatest", V.int g), ("turn", V.int f), ("line", V.ref ln), ("hidden", V.ref hd)]) := upd_same
    have l6 : upd H5 a (.ins CR dx [("players", V.int p), ("greatest", V.int g), ("turn", V.int f), ("line", V.ref ln), ("hidden", V.ref hd)]) ln = some (.lst []) := by
      rw [upd_ne nla]
      exact s5 _ _ l4
    have d6 : upd H5 a (.ins CR dx [("players", V.int p), ("greatest", V.int g), ("turn", V.int f), ("line", V.ref ln), ("hidden", V.ref hd)]) hd = some (.lst hv) := by
      rw [upd_ne nda]
      exact hhd
    have t6 : TilesAt (upd H5 a (.ins CR dx [("players", V.int p), ("greatest", V.int g), ("turn", V.int f), ("line", V.ref ln), ("hidden", V.ref hd)])) hv (tilesTo g) := htl.keep (tup_upd (s5 _ _ h4) fun _ z => nomatch z)
    have b6' := (b4'.trans (but_same s5 [a])).trans (but_upd (H := H5) (a := a) (o := .ins CR dx [("players", V.int p), ("greatest", V.int g), ("turn", V.int f), ("line", V.ref ln), ("hidden", V.ref hd)]))
    generalize upd H5 a (.ins CR dx [("players", V.int p), ("greatest", V.int g), ("turn", V.int f), ("line", V.ref ln), ("hidden", V.ref hd)]) = H6 at h6 l6 d6 t6 b6' ⊢
    -- room
    have len : hv.length = (tilesTo g).length := Paired.length t6
    refine ⟨_, rfl, by show 1 ≤ sizeLine; decide, fun x1 hx1 => ?_⟩
    have s7 := same_new (o := .lst [V.int e]) hx1
    refine ⟨_, rfl, x1, p, _, rfl, rfl, upd_same, by omega, by omega, ?_, fun x2 hx2 => ?_⟩
    · show 1 * p.toNat ≤ sizeLine
      have : (4 : Nat) ≤ sizeLine := by decide
      omega
    have s8 := s7.trans (same_new (o := .lst (List.replicate p.toNat [V.int e]).flatten) hx2)
    have e8 : upd (upd H6 x1 (.lst [V.int e])) x2 (.lst (List.replicate p.toNat [V.int e]).flatten) x2 = some (.lst (List.replicate p.toNat (V.int e))) := by
      rw [upd_same, flatten_one]
    generalize upd (upd H6 x1 (.lst [V.int e])) x2 (.lst (List.replicate p.toNat [V.int e]).flatten) = H8 at s8 e8 ⊢
    refine ⟨_, rfl, a, CR, dx, _, _, rfl, s8 _ _ h6, T.cl, T.hidden, rG_5_hidden, hd, hv, rfl, .inl (SqL.of (s8 _ _ d6)), _, rfl, _, rfl, p, e, rfl, rfl, .inl ⟨by omega, by omega⟩, ((hv.length : Nat) : Int), p * e, rfl, rfl, by show 1 ≤ sizeLine; decide, fun x3 hx3 => ?_⟩
    have s9 := s8.trans (same_new (o := .lst [V.int (((hv.length : Nat) : Int) - p * e)]) hx3)
    have e9 := (same_new (o := .lst [V.int (((hv.length : Nat) : Int) - p * e)]) hx3) _ _ e8
    have u9 : upd H8 x3 (.lst [V.int (((hv.length : Nat) : Int) - p * e)]) x3 = some (.lst [V.int (((hv.length : Nat) : Int) - p * e)]) := upd_same
    generalize upd H8 x3 (.lst [V.int (((hv.length : Nat) : Int) - p * e)]) = H9 at s9 e9 u9 ⊢
    have le4 : (100 : Nat) ≤ sizeLine := by decide
    refine ⟨x2, x3, _, _, rfl, rfl, e9, u9, by rw [List.length_replicate]; simp only [List.length_cons, List.length_nil]; omega, fun rm hrm => ?_⟩
    have s10 := s9.trans (same_new (o := .lst (List.replicate p.toNat (V.int e) ++ [V.int (((hv.length : Nat) : Int) - p * e)])) hrm)
    have ep : ((p.toNat * e.toNat : Nat) : Int) = p * e := by
      have e1 : ((p.toNat : Nat) : Int) = p := Int.toNat_of_nonneg (by omega)
      have e2 : ((e.toNat : Nat) : Int) = e := Int.toNat_of_nonneg (by omega)
      rw [Int.natCast_mul, e1, e2]
    have ee : V.int e = nV e.toNat := by
      unfold nV
      rw [Int.toNat_of_nonneg (by omega)]
    have er : V.int (((hv.length : Nat) : Int) - p * e) = nV ((tilesTo g).length - p.toNat * e.toNat) := by
      unfold nV
      congr 1
      rw [len, ← ep]
      omega
    have e10 : upd H9 rm (.lst (List.replicate p.toNat (V.int e) ++ [V.int (((hv.length : Nat) : Int) - p * e)])) rm = some (.lst (nsV (freshRaw p e g f).room)) := by
      rw [upd_same, er, ee]
      show _ = some (HO.lst (nsV (List.replicate p.toNat e.toNat ++ [(tilesTo g).length - p.toNat * e.toNat])))
      unfold nsV
      rw [List.map_append, List.map_replicate]
      rfl
    generalize upd H9 rm (.lst (List.replicate p.toNat (V.int e) ++ [V.int (((hv.length : Nat) : Int) - p * e)])) = H10 at s10 e10 ⊢
    have nra : rm ≠ a := (ne_of_none (s9 _ _ h6) hrm).symm
    have nrl : ln ≠ rm := ne_of_none (s9 _ _ l6) hrm
    have nrd : hd ≠ rm := ne_of_none (s9 _ _ d6) hrm
    refine ⟨_, rfl, a, CR, dx, _, rfl, s10 _ _ h6, T.cl, T.room, by show 5 < 1000; decide, ?_⟩
    rw [rS_5]
    have h11 : upd H10 a (.ins CR dx [("players", V.int p), ("greatest", V.int g), ("turn", V.int f), ("line", V.ref ln), ("hidden", V.ref hd), ("room", V.ref rm)]) a = some (.ins CR dx [("players", V.int p), ("greatest", V.int g), ("turn", V.int f), ("line", V.ref ln), ("hidden", V.ref hd), ("room", V.ref rm)]) := upd_same
    have l11 : upd H10 a (.ins CR dx [("players", V.int p), ("greatest", V.int g), ("turn", V.int f), ("line", V.ref ln), ("hidden", V.ref hd), ("room", V.ref rm)]) ln = some (.lst []) := by
      rw [upd_ne nla]
      exact s10 _ _ l6
    have d11 : upd H10 a (.ins CR dx [("players", V.int p), ("greatest", V.int g), ("turn", V.int f), ("line", V.ref ln), ("hidden", V.ref hd), ("room", V.ref rm)]) hd = some (.lst hv) := by
      rw [upd_ne nda]
      exact s10 _ _ d6
    have r11 : upd H10 a (.ins CR dx [("players", V.int p), ("greatest", V.int g), ("turn", V.int f), ("line", V.ref ln), ("hidden", V.ref hd), ("room", V.ref rm)]) rm = some (.lst (nsV (freshRaw p e g f).room)) := by
      rw [upd_ne nra]
      exact e10
    have t11 : TilesAt (upd H10 a (.ins CR dx [("players", V.int p), ("greatest", V.int g), ("turn", V.int f), ("line", V.ref ln), ("hidden", V.ref hd), ("room", V.ref rm)])) hv (tilesTo g) := (t6.same s10).keep (tup_upd (s10 _ _ h6) fun _ z => nomatch z)
    have b11 := (b6'.trans (but_same s10 [a])).trans (but_upd (H := H10) (a := a) (o := .ins CR dx [("players", V.int p), ("greatest", V.int g), ("turn", V.int f), ("line", V.ref ln), ("hidden", V.ref hd), ("room", V.ref rm)]))
    generalize upd H10 a (.ins CR dx [("players", V.int p), ("greatest", V.int g), ("turn", V.int f), ("line", V.ref ln), ("hidden", V.ref hd), ("room", V.ref rm)]) = H11 at h11 l11 d11 r11 t11 b11 ⊢
    -- known
    intro kn hkn
    have s12 := same_new (o := .dT []) hkn
    have nka : kn ≠ a := (ne_of_none h11 hkn).symm
    refine ⟨_, rfl, a, CR, dx, _, rfl, s12 _ _ h11, T.cl, T.known, by show 6 < 1000; decide, ?_⟩
    rw [rS_6]
    -- lacks
    intro lk hlk
    have hlk0 : upd H11 kn (.dT []) lk = none := by
      by_cases z : lk = a
      · subst z
        rw [upd_same] at hlk
        cases hlk
      · rw [upd_ne z] at hlk
        exact hlk
    have nkl : kn ≠ lk := fun z => by
      rw [← z, upd_same] at hlk0
      cases hlk0
    have nla2 : lk ≠ a := fun z => by
      rw [z, upd_same] at hlk
      cases hlk
    generalize hF7 : HO.ins CR dx [("players", V.int p), ("greatest", V.int g), ("turn", V.int f), ("line", V.ref ln), ("hidden", V.ref hd), ("room", V.ref rm), ("known", V.ref kn)] = F7 at hlk ⊢
    refine ⟨_, rfl, a, CR, dx, [("players", V.int p), ("greatest", V.int g), ("turn", V.int f), ("line", V.ref ln), ("hidden", V.ref hd), ("room", V.ref rm), ("known", V.ref kn)], rfl, by rw [upd_ne nla2.symm, upd_same, hF7], T.cl, T.lacks, by show 7 < 1000; decide, ?_⟩
    rw [rS_7]
    -- passes
    refine ⟨_, rfl, a, CR, dx, _, rfl, upd_same, T.cl, T.passes, by show 8 < 1000; decide, ?_⟩
    rw [rS_8]
    -- shown
    intro sh hsh
    have nsa : sh ≠ a := fun z => by
      rw [z, upd_same] at hsh
      cases hsh
    have hsh1 : upd (upd (upd H11 kn (.dT [])) a F7) lk (.dT []) sh = none := by
      rw [upd_ne nsa, upd_ne nsa] at hsh
      exact hsh
    have nsl : lk ≠ sh := fun z => by
      rw [← z, upd_same] at hsh1
      cases hsh1
    have hsh2 : upd H11 kn (.dT []) sh = none := by
      rw [upd_ne nsl.symm, upd_ne nsa] at hsh1
      exact hsh1
    have nsk : kn ≠ sh := fun z => by
      rw [← z, upd_same] at hsh2
      cases hsh2
    have hsh3 : H11 sh = none := by
      rw [upd_ne nsk.symm] at hsh2
      exact hsh2
    have hlk3 : H11 lk = none := by
      rw [upd_ne nkl.symm] at hlk0
      exact hlk0
    refine ⟨_, rfl, a, CR, dx, [("players", V.int p), ("greatest", V.int g), ("turn", V.int f), ("line", V.ref ln), ("hidden", V.ref hd), ("room", V.ref rm), ("known", V.ref kn), ("lacks", V.ref lk), ("passes", V.int 0)], rfl, by rw [upd_ne nsa.symm]; exact upd_same, T.cl, T.shown, by show 9 < 1000; decide, ?_⟩
    rw [rS_9]
    -- what stands then
    have at_ : ∀ b o, H11 b = some o → b ≠ a → upd (upd (upd (upd (upd (upd (upd H11 kn (.dT [])) a F7) lk (.dT [])) a (.ins CR dx [("players", V.int p), ("greatest", V.int g), ("turn", V.int f), ("line", V.ref ln), ("hidden", V.ref hd), ("room", V.ref rm), ("known", V.ref kn), ("lacks", V.ref lk)])) a (.ins CR dx [("players", V.int p), ("greatest", V.int g), ("turn", V.int f), ("line", V.ref ln), ("hidden", V.ref hd), ("room", V.ref rm), ("known", V.ref kn), ("lacks", V.ref lk), ("passes", V.int 0)])) sh (.dK [])) a (.ins CR dx (rawF ⟨a, dx, ln, hd, rm, kn, lk, sh⟩ (freshRaw p e g f))) b = some o := by
      intro b o eb na
      rw [upd_ne na, upd_ne (ne_of_none eb hsh3), upd_ne na, upd_ne na, upd_ne (ne_of_none eb hlk3), upd_ne na, upd_ne (ne_of_none eb hkn)]
      exact eb
    refine q _ ⟨a, dx, ln, hd, rm, kn, lk, sh⟩ rfl ⟨upd_same, ⟨[], at_ _ _ l11 nla, .nil⟩, ⟨hv, at_ _ _ d11 nda, t11.keep fun b xs eb => at_ b _ eb (ne_of eb h11 fun z => nomatch z)⟩, at_ _ _ r11 nra, ?_, ?_, ?_, ndl, nrl, nrd, nkl⟩ (fun b hb => ?_) fun b o eb na => at_ b o (b11 b o eb (by simpa using na)) na
    · show upd _ a _ kn = some (HO.dT [])
      rw [upd_ne nka, upd_ne nsk, upd_ne nka, upd_ne nka, upd_ne nkl, upd_ne nka]
      exact upd_same
    · show upd _ a _ lk = some (HO.dT [])
      rw [upd_ne nla2, upd_ne nsl, upd_ne nla2, upd_ne nla2]
      exact upd_same
    · show upd _ a _ sh = some (HO.dK [])
      rw [upd_ne nsa]
      exact upd_same
    · have fl := free_but b3' hln nla
      have fd := free_but b4' hd0 nda
      have fr := free_but (b6'.trans (but_same s9 [a])) hrm nra
      have fk := free_but b11 hkn nka
      have fx := free_but b11 hlk3 nla2
      have fs := free_but b11 hsh3 nsa
      unfold RA.all at hb
      simp only [List.mem_cons, List.not_mem_nil, or_false] at hb
      rcases hb with w | w | w | w | w | w | w <;> rw [w]
      · exact .inl rfl
      · exact .inr fl
      · exact .inr fd
      · exact .inr fr
      · exact .inr fk
      · exact .inr fx
      · exact .inr fs
end
end Dm
/-! ## DmBegin -/
/-! The watcher; a beginning. -/
namespace Dm
open PySem PySem.Spec PyProof.Rows L2
open Kg86 (Tile full State)

/-! ### readings that leave the heap -/
def Tells (te : TE) (σ : L2.St) (H : Hp) (v : V) : Prop := ∀ Q : VK, Q v H → te σ H Q
section
variable {σ : L2.St} {H : Hp} {ta tb tc : TE}
theorem tells_var {i : Nat} {v : V} (h : σ[i]? = some (some v)) : Tells (tVar i) σ H v := fun Q q => ⟨v, h, q⟩
theorem tells_and {a b : Bool} (h1 : Tells ta σ H (.bl a)) (h2 : a = true → Tells tb σ H (.bl b)) : Tells (tAndV ta tb) σ H (.bl (a && b)) := fun Q q => h1 _ ⟨a, rfl, by
  cases a with
  | true => exact iteT (h2 rfl Q q)
  | false => exact iteF q⟩
theorem tells_or {a b : Bool} (h1 : Tells ta σ H (.bl a)) (h2 : a = false → Tells tb σ H (.bl b)) : Tells (tOrV ta tb) σ H (.bl (a || b)) := fun Q q => h1 _ ⟨a, rfl, by
  cases a with
  | true => exact iteT q
  | false => exact iteF (h2 rfl Q q)⟩
theorem tells_le_le {x y z : Int} (h1 : Tells ta σ H (.int x)) (h2 : Tells tb σ H (.int y)) (h3 : Tells tc σ H (.int z)) :
    Tells (tChain (rI0 fun i j => .bl (decide (i ≤ j))) (rI0 fun i j => .bl (decide (i ≤ j))) ta tb tc) σ H (.bl (decide (x ≤ y) && decide (y ≤ z))) := fun Q q => h1 _ (h2 _ ⟨x, y, rfl, rfl, _, rfl, by
  by_cases c : x ≤ y
  · rw [decide_eq_true c] at q ⊢
    exact iteT (h3 _ ⟨y, z, rfl, rfl, q⟩)
  · rw [decide_eq_false c] at q ⊢
    exact iteF q⟩)
theorem tells_le_lt {x y z : Int} (h1 : Tells ta σ H (.int x)) (h2 : Tells tb σ H (.int y)) (h3 : Tells tc σ H (.int z)) :
    Tells (tChain (rI0 fun i j => .bl (decide (i ≤ j))) (rI0 fun i j => .bl (decide (i < j))) ta tb tc) σ H (.bl (decide (x ≤ y) && decide (y < z))) := fun Q q => h1 _ (h2 _ ⟨x, y, rfl, rfl, _, rfl, by
  by_cases c : x ≤ y
  · rw [decide_eq_true c] at q ⊢
    exact iteT (h3 _ ⟨y, z, rfl, rfl, q⟩)
  · rw [decide_eq_false c] at q ⊢
    exact iteF q⟩)
def TellsT (t : TT) (σ : L2.St) (H : Hp) (b : Bool) : Prop := ∀ Q : Bool → Hp → Prop, Q b H → t σ H Q
theorem tellsT_of {b : Bool} (h : Tells ta σ H (.bl b)) : TellsT (tTest ta) σ H b := fun Q q => h _ ⟨b, rfl, q⟩
theorem tellsT_and {t u : TT} {a b : Bool} (h1 : TellsT t σ H a) (h2 : a = true → TellsT u σ H b) : TellsT (tAnd t u) σ H (a && b) := fun Q q => h1 _ (by
  cases a with
  | true => exact iteT (h2 rfl Q q)
  | false => exact iteF q)
theorem tellsT_not {t : TT} {a : Bool} (h1 : TellsT t σ H a) : TellsT (tNot t) σ H (!a) := fun Q q => h1 _ q
theorem seq_if {c : TT} {t u rest : TS} {D : Ends} {b : Bool} (h : TellsT c σ H b) (k : if b = true then t { D with nx := rest D } σ H else u { D with nx := rest D } σ H) : tSeq (tIfS c t u) rest D σ H := h _ k
theorem tells_c {v : V} : Tells (tC v) σ H v := fun Q q => q
end

/-! ### begin_refusal -/
def spBeginRef : Sp := fun vs H Q _ => ∃ (p h n f : Int), vs = [.int p, .int h, .int n, .int f] ∧ ∀ H' : Hp, Same H H' → Q (.int (beginRef p h n f)) H'
structure TxtB (mg : Str → Option Value) : Prop where
  most : ∃ tk, mg "MOST_STATES" = some (.int 4096 tk)
  len : mg "len" = none
  range : mg "range" = none
theorem tilesTo_full {n : Int} (h1 : 1 ≤ n) (h6 : n ≤ 6) : tilesTo n = full n.toNat := by
  unfold tilesTo
  have e : (n + 1).toNat = n.toNat + 1 := by omega
  rw [e, full_rows (by omega)]
section
variable {P : Program} {w : World} {K : PySem.W.Frag} {mg : Str → Option Value} {base : Heap} {CR CW : Addr} {f : Addr} {fd : FuncData}
theorem ok_begin_refusal (F : Fun K "begin_refusal" "begin_refusal" s_f_begin_refusal f fd) (T : TxtB mg) (C : HasF P w K mg base "all_tiles" 1 ["greatest"] spAll) :
    FnOk P w K mg base CX0 2 f fd ["players", "each", "greatest", "first"] spBeginRef := by
  obtain ⟨f1, fd1, m1, kp1, G1, b1⟩ := C
  obtain ⟨tk, mM⟩ := T.most
  refine F.ok sc_f_begin_refusal (fun vs H Q E h => ?_) (fun cdv A outer s H vs Q E hr h => ?_)
  · obtain ⟨p, h, n, f, rfl, _⟩ := h
    rfl
  · obtain ⟨p, h, n, f, rfl, q⟩ := h
    have hr1 : Room 1 _ := hr.mono (by decide)
    have nd := sc_f_begin_refusal.nd
    refine ⟨_, pss_cons (ps_if (pt_not (PW.pt (pw_and (pt_chain op_le op_le pe_int (pv 0) pe_int) (pw_and (pt_chain op_le op_le pe_int (pv 1) pe_int) (pw_and1 (pt_chain op_le op_le pe_int (pv 2) pe_int)))))) (pss_one (ps_ret (pe_un un_neg pe_int))) pss_nil)
      (pss_cons (ps_if (pt_not (pt_chain op_le op_lt pe_int (pv 3) (pv 0))) (pss_one (ps_ret (pe_un un_neg pe_int))) pss_nil)
      (pss_cons (ps_set (i := 4) nd rfl (Or.inl rfl) (pe_op op_sub (pe_callB call_len_seq (by rfl) T.len PySem.boot_len (pa_cons (pe_call G1 hr1 rfl m1 kp1 b1 .nil pass0 (pa_cons (pv 2) pa_nil)) pa_nil)) (pe_op op_mul (pv 0) (pv 1))))
      (pss_cons (ps_if (pt_cmpR op_lt (pv 4) pe_int (nomark _)) (pss_one (ps_ret (pe_un un_neg pe_int))) pss_nil)
      (pss_cons (ps_set (i := 5) nd rfl (Or.inl rfl) (pe_op op_add (pv 4) pe_int))
      (pss_cons (ps_for PassesOwn.never rfl (pi_range1 rfl T.range (pa_cons (pv 0) pa_nil)) (pg_name (i := 6) nd rfl (Or.inl rfl)) (pss_one (ps_set (i := 5) nd rfl (Or.inl rfl) (pe_op op_mul (pv 5) (pe_op op_add (pv 1) pe_int)))))
      (pss_cons (ps_if (pt_cmpR op_gt (pv 5) (pe_glob (v := V.int 4096) rfl mM ⟨_, rfl⟩) (nomark _)) (pss_one (ps_ret (pe_un un_neg pe_int))) pss_nil)
      (pss_one (ps_ret pe_int)))))))), ?_⟩
    unfold beginRef at q
    have w1 : ∀ (i : Nat) (x lo hi : Int) (H : Hp) (σ : L2.St), σ[i]? = some (some (V.int x)) → TellsT (tTest (tChain (rI0 fun i j => .bl (decide (i ≤ j))) (rI0 fun i j => .bl (decide (i ≤ j))) (tC (.int lo)) (tVar i) (tC (.int hi)))) σ H (Kg86.within x lo hi) :=
      fun i x lo hi H σ e => tellsT_of (tells_le_le tells_c (tells_var e) tells_c)
    refine seq_if (tellsT_not (tellsT_and (w1 0 p 2 4 H _ rfl) fun _ => tellsT_and (w1 1 h 1 7 H _ rfl) fun _ => w1 2 n 1 6 H _ rfl)) ?_
    show if (!(Kg86.within p 2 4 && (Kg86.within h 1 7 && Kg86.within n 1 6))) = true then _ else _
    by_cases c1 : (Kg86.within p 2 4 && (Kg86.within h 1 7 && Kg86.within n 1 6)) = false
    · rw [if_pos c1] at q
      rw [c1]
      exact iteT ⟨1, rfl, q H (Same.refl H)⟩
    rw [if_neg c1] at q
    have a1 := eqT c1
    rw [a1]
    refine iteF ?_
    refine seq_if (tellsT_not (tellsT_of (tells_le_lt tells_c (tells_var rfl) (tells_var rfl)))) ?_
    by_cases c2 : (decide (0 ≤ f) && decide (f < p)) = false
    · rw [if_pos c2] at q
      rw [c2]
      exact iteT ⟨1, rfl, q H (Same.refl H)⟩
    rw [if_neg c2] at q
    have a2 := eqT c2
    rw [a2]
    refine iteF ?_
    rw [Bool.and_eq_true, Bool.and_eq_true, within_iff, within_iff, within_iff] at a1
    obtain ⟨hp, hh, hn⟩ := a1
    refine ⟨_, rfl, n, rfl, by omega, by omega, fun H1 l vs' s1 hl0 hl htl => ?_⟩
    have len : vs'.length = (full n.toNat).length := by
      have e := Paired.length htl
      have e2 : (List.range (n + 1).toNat).flatMap (rowOf n.toNat) = full n.toNat := tilesTo_full hn.1 hn.2
      rw [e2] at e
      exact e
    refine ⟨l, vs', rfl, .inl (SqL.of hl), _, rfl, _, rfl, p, h, rfl, rfl, .inl ⟨by omega, by omega⟩, _, _, rfl, rfl, _, rfl, _, _, rfl, rfl, _, rfl, ?_⟩
    rw [len]
    refine ite2 (fun c3 => ?_) (fun c3 => ?_)
    · have c3' : ((full n.toNat).length : Int) - p * h < 0 := of_decide_eq_true c3
      rw [if_pos c3'] at q
      exact ⟨4, rfl, q H1 s1⟩
    have c3' : ¬ ((full n.toNat).length : Int) - p * h < 0 := fun z => c3 (decide_eq_true z)
    rw [if_neg c3'] at q
    refine ⟨_, rfl, _, _, rfl, rfl, _, rfl, p, rfl, by omega, by omega, ?_⟩
    have sh := full_short (top := n.toNat) (by omega)
    have ep : ((p.toNat * h.toNat : Nat) : Int) = p * h := by
      have e1 : ((p.toNat : Nat) : Int) = p := Int.toNat_of_nonneg (by omega)
      have e2 : ((h.toNat : Nat) : Int) = h := Int.toNat_of_nonneg (by omega)
      rw [Int.natCast_mul, e1, e2]
    have e0 : ((full n.toNat).length : Int) - p * h + 1 = (((full n.toNat).length - p.toNat * h.toNat + 1 : Nat) : Int) := by omega
    refine for_it (walk_range (lo := 0) (n := p.toNat))
      (fun i σ H' => ∃ v6 : Option V, σ = [some (.int p), some (.int h), some (.int n), some (.int f), some (.int (((full n.toNat).length : Int) - p * h)), some (.int (((h.toNat + 1) ^ i * ((full n.toNat).length - p.toNat * h.toNat + 1) : Nat) : Int)), v6] ∧ Same H H')
      ⟨none, by
        show [some (V.int p), some (V.int h), some (V.int n), some (V.int f), some (V.int (((full n.toNat).length : Int) - p * h)), some (V.int (((full n.toNat).length : Int) - p * h + 1)), none] = _
        rw [e0, Nat.pow_zero, Nat.one_mul], s1⟩ (fun _ _ _ _ _ => True.intro) ?_ ?_
    · rintro i x σ H2 H3 hi ⟨v6, rfl, sm⟩ ⟨rfl, ex⟩
      refine ⟨_, rfl, _, rfl, _, _, rfl, rfl, _, h + 1, rfl, rfl, .inr ⟨by omega, by omega⟩, ?_⟩
      refine ⟨some x, ?_, sm⟩
      have e1 : h + 1 = ((h.toNat + 1 : Nat) : Int) := by omega
      have e2 : (((h.toNat + 1) ^ i * ((full n.toNat).length - p.toNat * h.toNat + 1) : Nat) : Int) * (h + 1) = (((h.toNat + 1) ^ (i + 1) * ((full n.toNat).length - p.toNat * h.toNat + 1) : Nat) : Int) := by
        rw [e1, ← Int.natCast_mul]
        congr 1
        rw [Nat.pow_succ, Nat.mul_assoc, Nat.mul_assoc, Nat.mul_comm (h.toNat + 1)]
      show [some (V.int p), some (V.int h), some (V.int n), some (V.int f), some (V.int (((full n.toNat).length : Int) - p * h)), some (V.int ((((h.toNat + 1) ^ i * ((full n.toNat).length - p.toNat * h.toNat + 1) : Nat) : Int) * (h + 1))), some x] = _
      rw [e2]
    · rintro σ H2 ⟨v6, rfl, sm⟩
      refine ⟨_, rfl, _, _, rfl, rfl, _, rfl, ?_⟩
      refine ite2 (fun c4 => ?_) (fun c4 => ?_)
      · have c4' : (4096 : Int) < ((h.toNat + 1) ^ p.toNat * ((full n.toNat).length - p.toNat * h.toNat + 1) : Nat) := of_decide_eq_true c4
        rw [if_pos c4'] at q
        exact ⟨5, rfl, q H2 sm⟩
      · have c4' : ¬ (4096 : Int) < ((h.toNat + 1) ^ p.toNat * ((full n.toNat).length - p.toNat * h.toNat + 1) : Nat) := fun z => c4 (decide_eq_true z)
        rw [if_neg c4'] at q
        exact q H2 sm
end

/-! ### the watcher -/
def WatAt (CW CR : Addr) (H : Hp) (wa : Addr) (R : RA) (s : State) : Prop := (∃ wdx, H wa = some (.ins CW wdx (wF (.ref R.a)))) ∧ RoundAt CR H R s ∧ Valid s
def Frame (H H' : Hp) (wa : Addr) (R R' : RA) : Prop := (∀ b o, H b = some o → b ≠ wa → b ∉ R.all → H' b = some o) ∧ ∀ b ∈ R'.all, b ∈ R.all ∨ H b = none
theorem frame_same {H H' : Hp} {wa : Addr} {R : RA} (s : Same H H') : Frame H H' wa R R := ⟨fun b o e _ _ => s _ _ e, fun b hb => .inl hb⟩
theorem frame_but {H H' : Hp} {wa : Addr} {R : RA} (s : SameBut R.all H H') : Frame H H' wa R R := ⟨fun b o e _ n => s _ _ e n, fun b hb => .inl hb⟩
theorem Frame.then_same {H H1 H' : Hp} {wa : Addr} {R R' : RA} (h : Frame H H1 wa R R') (s : Same H1 H') : Frame H H' wa R R' := ⟨fun b o e n m => s _ _ (h.1 b o e n m), h.2⟩
theorem WatAt.same {CW CR : Addr} {H H' : Hp} {wa : Addr} {R : RA} {s : State} (h : WatAt CW CR H wa R s) (e : Same H H') : WatAt CW CR H' wa R s :=
  ⟨let ⟨d, q⟩ := h.1; ⟨d, e _ _ q⟩, h.2.1.same e, h.2.2⟩
theorem wF_ne {v : V} {A : RA} {r : Raw} : wF v ≠ rawF A r := fun z => by
  have := congrArg List.length z
  exact absurd this (by simp [wF, rawF, rF])
theorem WatAt.out {CW CR : Addr} {H : Hp} {wa : Addr} {R : RA} {s : State} (h : WatAt CW CR H wa R s) : wa ∉ R.all := by
  obtain ⟨⟨wdx, hw⟩, ⟨kn, lk, sh, _, _, _, ra⟩, _⟩ := h
  intro m
  unfold RA.all at m
  simp only [List.mem_cons, List.not_mem_nil, or_false] at m
  obtain ⟨_, h1, _⟩ := ra.ln
  obtain ⟨_, h2, _⟩ := ra.hd
  rcases m with e | e | e | e | e | e | e <;> rw [e] at hw
  · rw [ra.ins] at hw
    injection hw with hw
    injection hw with _ _ hw
    exact wF_ne hw.symm
  · rw [h1] at hw; cases hw
  · rw [h2] at hw; cases hw
  · rw [ra.rm] at hw; cases hw
  · rw [ra.kn] at hw; cases hw
  · rw [ra.lk] at hw; cases hw
  · rw [ra.sh] at hw; cases hw
def ansV (a : Kg86.Ans) : List V := (a.value :: a.out).map V.int
def WDone (CW CR : Addr) (Q : VK) (H : Hp) (wa : Addr) (R : RA) (s : State) (c : Kg86.Call) : Prop :=
  ∀ (H' : Hp) (p : Addr) (R' : RA), Frame H H' wa R R' → WatAt CW CR H' wa R' (Kg86.spec s c).1 → H p = none → H' p = some (.lst (ansV (Kg86.spec s c).2)) → Q (.ref p) H'
/-- a refusal: the list of it alone -/
theorem WDone.refused {CW CR : Addr} {Q : VK} {H H1 : Hp} {wa : Addr} {R : RA} {s : State} {c : Kg86.Call} {r : Int} (h : WDone CW CR Q H wa R s c) (wat : WatAt CW CR H wa R s) (s1 : Same H H1) (e : Kg86.spec s c = (s, Kg86.num r)) {p : Addr} (hp : H1 p = none) :
    Q (.ref p) (upd H1 p (.lst [.int r])) := by
  refine h _ p R (frame_same (s1.trans (same_new hp))) ?_ (same_free s1 hp) ?_
  · rw [e]
    exact wat.same (s1.trans (same_new hp))
  · rw [upd_same, e]
    rfl
structure TxtW (K : PySem.W.Frag) (CW : Addr) : Prop where
  cl : Cls K CW
  seen : NoAttr K CW "seen"
/-- a class, made by its __init__ -/
def HasI (P : Program) (w : World) (K : PySem.W.Frag) (mg : Str → Option Value) (base : Heap) (C : Addr) (name : Str) (k : Nat) (ps : List Str) (sp : Sp) : Prop :=
  ∃ (f : Addr) (fd : FuncData), mg name = some (.ref C) ∧ Mk K C f ∧ FnOk P w K mg base CX0 k f fd ps sp ∧ Binds K fd ps []
theorem kn_nil : KnRel [] [] := ⟨fun _ => rfl, rfl, List.nodup_nil⟩
theorem lk_nil (n : Nat) : LkRel [] (List.replicate n []) := ⟨fun k m => by
  have : (List.replicate n ([] : List Nat)).getD k [] = [] := by
    rw [List.getD_eq_getElem?_getD, List.getElem?_replicate]
    split <;> rfl
  rw [this]
  rfl, fun x hx => absurd hx (by simp), List.nodup_nil⟩
theorem sh_nil : ShRel [] [] := ⟨fun _ => rfl, rfl⟩
theorem raw_init : rawOf Kg86.init [] [] [] = freshRaw 0 0 (-1) (-1) := rfl
theorem round_init {CR : Addr} {H : Hp} {A : RA} (h : RawAt CR H A (freshRaw 0 0 (-1) (-1))) : RoundAt CR H A Kg86.init := ⟨[], [], [], kn_nil, lk_nil 0, sh_nil, by rw [raw_init]; exact h⟩
theorem raw_begun {p h n f : Int} (hp : 2 ≤ p ∧ p ≤ 4) (hh : 1 ≤ h) (hn : 1 ≤ n ∧ n ≤ 6) (hf : 0 ≤ f) : rawOf (begun p.toNat h.toNat n.toNat f.toNat) [] [] [] = freshRaw p h n f := by
  have ne : (begun p.toNat h.toNat n.toNat f.toNat).left ≠ [] := by
    show List.replicate p.toNat h.toNat ≠ []
    intro e
    have := congrArg List.length e
    rw [List.length_replicate] at this
    simp at this
    omega
  have e1 : (((begun p.toNat h.toNat n.toNat f.toNat).left.length : Nat) : Int) = p := by
    show (((List.replicate p.toNat h.toNat).length : Nat) : Int) = p
    rw [List.length_replicate]
    omega
  have e2 : hid (begun p.toNat h.toNat n.toNat f.toNat) = tilesTo n := by
    unfold hid
    rw [if_neg ne, begun_unseen, tilesTo_full hn.1 hn.2]
  have e3 : (begun p.toNat h.toNat n.toNat f.toNat).caps = List.replicate p.toNat h.toNat ++ [(tilesTo n).length - p.toNat * h.toNat] := by
    unfold State.caps
    rw [begun_rest _ _ _ _ (by omega), tilesTo_full hn.1 hn.2]
    rfl
  have e4 : ((n.toNat : Nat) : Int) = n := by omega
  have e5 : ((f.toNat : Nat) : Int) = f := by omega
  unfold rawOf freshRaw
  rw [e1, if_neg ne, e2, e3]
  show (⟨p, ((n.toNat : Nat) : Int), ((f.toNat : Nat) : Int), [], tilesTo n, _, [], [], 0, []⟩ : Raw) = _
  rw [e4, e5]
def spWInit (CW CR : Addr) : Sp := fun vs H Q _ => ∃ (wa dx : Addr), vs = [.ref wa] ∧ H wa = some (.ins CW dx []) ∧
  ∀ (H' : Hp) (R : RA), WatAt CW CR H' wa R Kg86.init → (∀ b ∈ R.all, H b = none) → (∀ b o, H b = some o → b ≠ wa → H' b = some o) → Q .non H'
def spBegin (CW CR : Addr) : Sp := fun vs H Q _ => ∃ (wa : Addr) (R : RA) (s : State) (p h n f : Int), vs = [.ref wa, .int p, .int h, .int n, .int f] ∧ WatAt CW CR H wa R s ∧ WDone CW CR Q H wa R s (.begin_ p h n f)
section
variable {P : Program} {w : World} {K : PySem.W.Frag} {mg : Str → Option Value} {base : Heap} {CR CW : Addr} {f : Addr} {fd : FuncData}
theorem tilesTo_none : tilesTo (-1) = [] := rfl
theorem ok_w_init (F : Fun K "__init__" "Watcher.__init__" s_w_init f fd) (TW : TxtW K CW) (I : HasI P w K mg base CR "Round" 2 ["self", "players", "each", "greatest", "first"] (spInit CR)) : FnOk P w K mg base CX0 4 f fd ["self"] (spWInit CW CR) := by
  obtain ⟨f1, fd1, m1, M1, G1, b1⟩ := I
  refine F.ok sc_w_init (fun vs H Q E h => ?_) (fun cdv A outer s H vs Q E hr h => ?_)
  · obtain ⟨wa, dx, rfl, _⟩ := h
    rfl
  · obtain ⟨wa, dx, rfl, hw, q⟩ := h
    refine ⟨_, pss_one (ps_fld (pv 0) (pe_make M1 G1 hr rfl m1 b1 .nil pass0 (pa_cons pe_int (pa_cons pe_int (pa_cons (pe_un un_neg pe_int) (pa_cons (pe_un un_neg pe_int) pa_nil))))) rfl), ?_⟩
    refine ⟨1, rfl, 1, rfl, ?_⟩
    intro x dx2 hx hdx ne
    have sx : Same H (upd (upd H dx2 (.own x)) x (.ins CR dx2 [])) := fun b o e => by
      rw [upd_ne (ne_of_none e hx), upd_ne (ne_of_none e hdx)]
      exact e
    refine ⟨x, dx2, 0, 0, -1, -1, rfl, upd_same, ⟨by omega, by omega⟩, ⟨by omega, by omega⟩, ⟨by omega, by omega⟩, by simp, fun H1 A ea ra fresh kp => ⟨rfl, ?_⟩⟩
    have nwx : wa ≠ x := ne_of_none hw hx
    have hw1 : H1 wa = some (.ins CW dx []) := kp wa _ (sx _ _ hw) nwx
    refine ⟨_, rfl, wa, CW, dx, _, rfl, hw1, TW.cl, TW.seen, by show 0 < 1000; decide, ?_⟩
    rw [wS_0]
    have free : ∀ b ∈ A.all, H b = none := fun b hb => by
      rcases fresh b hb with e | e
      · rw [e]
        exact hx
      · exact same_free sx e
    have nwA : wa ∉ A.all := fun m => by
      have := free wa m
      rw [hw] at this
      cases this
    have ra' : RawAt CR (upd H1 wa (.ins CW dx [("seen", V.ref x)])) A (freshRaw 0 0 (-1) (-1)) := by
      have n : ∀ b, b ∈ A.all → b ≠ wa := fun b hb e => nwA (e ▸ hb)
      refine ⟨?_, ?_, ?_, ?_, ?_, ?_, ?_, ra.n1, ra.n2, ra.n3, ra.n4⟩
      · rw [upd_ne (n _ A.a_mem)]
        exact ra.ins
      · obtain ⟨vs, h1, h2⟩ := ra.ln
        exact ⟨vs, by rw [upd_ne (n _ A.ln_mem)]; exact h1, h2.keep (tup_upd hw1 fun _ z => nomatch z)⟩
      · obtain ⟨vs, h1, h2⟩ := ra.hd
        exact ⟨vs, by rw [upd_ne (n _ A.hd_mem)]; exact h1, h2.keep (tup_upd hw1 fun _ z => nomatch z)⟩
      · rw [upd_ne (n _ A.rm_mem)]
        exact ra.rm
      · rw [upd_ne (n _ A.kn_mem)]
        exact ra.kn
      · rw [upd_ne (n _ A.lk_mem)]
        exact ra.lk
      · rw [upd_ne (n _ A.sh_mem)]
        exact ra.sh
    refine q _ A ⟨⟨dx, by rw [upd_same, ea]; rfl⟩, round_init ra', valid_init⟩ free fun b o e nb => ?_
    rw [upd_ne nb]
    exact kp b o (sx _ _ e) (ne_of_none e hx)
theorem RawAt.atWat {H : Hp} {A : RA} {r : Raw} {wa : Addr} {o o' : HO} (ra : RawAt CR H A r) (n : ∀ b, b ∈ A.all → b ≠ wa) (hw : H wa = some o) (no : ∀ xs, o ≠ .tup xs) : RawAt CR (upd H wa o') A r := by
  refine ⟨?_, ?_, ?_, ?_, ?_, ?_, ?_, ra.n1, ra.n2, ra.n3, ra.n4⟩
  · rw [upd_ne (n _ A.a_mem)]
    exact ra.ins
  · obtain ⟨vs, h1, h2⟩ := ra.ln
    exact ⟨vs, by rw [upd_ne (n _ A.ln_mem)]; exact h1, h2.keep (tup_upd hw no)⟩
  · obtain ⟨vs, h1, h2⟩ := ra.hd
    exact ⟨vs, by rw [upd_ne (n _ A.hd_mem)]; exact h1, h2.keep (tup_upd hw no)⟩
  · rw [upd_ne (n _ A.rm_mem)]
    exact ra.rm
  · rw [upd_ne (n _ A.kn_mem)]
    exact ra.kn
  · rw [upd_ne (n _ A.lk_mem)]
    exact ra.lk
  · rw [upd_ne (n _ A.sh_mem)]
    exact ra.sh
theorem ok_w_begin (F : Fun K "begin" "Watcher.begin" s_w_begin f fd) (TW : TxtW K CW) (T : TxtR K mg CR) (I : HasI P w K mg base CR "Round" 2 ["self", "players", "each", "greatest", "first"] (spInit CR))
    (C : HasF P w K mg base "begin_refusal" 2 ["players", "each", "greatest", "first"] spBeginRef) : FnOk P w K mg base CX0 4 f fd ["self", "players", "each", "greatest", "first"] (spBegin CW CR) := by
  obtain ⟨f1, fd1, m1, M1, G1, b1⟩ := I
  obtain ⟨f2, fd2, m2, kp2, G2, b2⟩ := C
  refine F.ok sc_w_begin (fun vs H Q E h => ?_) (fun cdv A outer s H vs Q E hr h => ?_)
  · obtain ⟨wa, R, s, p, h, n, f, rfl, _⟩ := h
    rfl
  · obtain ⟨wa, R, z, p, h, n, f, rfl, wat, q⟩ := h
    have hr2 : Room 2 _ := hr.mono (by decide)
    have nd := sc_w_begin.nd
    refine ⟨_, pss_cons (ps_set (i := 5) nd rfl (Or.inl rfl) (pe_call G2 hr2 rfl m2 kp2 b2 .nil pass0 (pa_cons (pv 1) (pa_cons (pv 2) (pa_cons (pv 3) (pa_cons (pv 4) pa_nil))))))
      (pss_cons (ps_if (pt_cmpR op_lt (pv 5) pe_int (nomark _)) (pss_one (ps_ret (pe_lst (pa_cons (pv 5) pa_nil)))) pss_nil)
      (pss_cons (ps_fld (pv 0) (pe_make M1 G1 hr rfl m1 b1 .nil pass0 (pa_cons (pv 1) (pa_cons (pv 2) (pa_cons (pv 3) (pa_cons (pv 4) pa_nil))))) rfl)
      (pss_one (ps_ret (pe_lst (pa_cons (pe_ix ix_list (pe_fld (pe_fld (pv 0) rfl) rfl) (pv 1) (fun _ _ => rfl)) pa_nil)))))), ?_⟩
    refine ⟨_, rfl, _, rfl, _, rfl, _, rfl, p, h, n, f, rfl, fun H1 s1 => ?_⟩
    refine ⟨_, rfl, _, _, rfl, rfl, _, rfl, ?_⟩
    refine ite2 (fun c => ?_) (fun c => ?_)
    · have c' : beginRef p h n f < 0 := of_decide_eq_true c
      refine ⟨_, rfl, by show 1 ≤ sizeLine; decide, fun pa hpa => ?_⟩
      exact q.refused wat s1 (by rw [spec_begin, if_pos c']) hpa
    · have c' : ¬ beginRef p h n f < 0 := fun e => c (decide_eq_true e)
      obtain ⟨g1, g2, g3, g4, g5, g6⟩ := beginRef_pos c'
      refine ⟨_, rfl, _, rfl, _, rfl, _, rfl, ?_⟩
      intro x dx2 hx hdx ne
      have sx : Same H (upd (upd H1 dx2 (.own x)) x (.ins CR dx2 [])) := s1.trans fun b o e => by
        rw [upd_ne (ne_of_none e hx), upd_ne (ne_of_none e hdx)]
        exact e
      refine ⟨x, dx2, p, h, n, f, rfl, upd_same, ⟨by omega, by omega⟩, ⟨by omega, by omega⟩, ⟨by omega, by omega⟩, by rw [tilesTo_full g3.1 g3.2]; exact g5, fun H2 A ea ra fresh kp => ⟨rfl, ?_⟩⟩
      obtain ⟨⟨wdx, hw⟩, rat, val⟩ := id wat
      have hx0 : H x = none := same_free s1 hx
      have nwx : wa ≠ x := ne_of_none hw hx0
      have hw2 : H2 wa = some (.ins CW wdx (wF (.ref R.a))) := kp wa _ (sx _ _ hw) nwx
      refine ⟨_, rfl, wa, CW, wdx, _, rfl, hw2, TW.cl, TW.seen, by show 1 < 1000; decide, ?_⟩
      rw [wP_seen]
      have free : ∀ b ∈ A.all, H b = none := fun b hb => by
        rcases fresh b hb with e | e
        · rw [e]
          exact hx0
        · exact same_free sx e
      have nm : ∀ b, b ∈ A.all → b ≠ wa := fun b hb e => by
        have := free b hb
        rw [e, hw] at this
        cases this
      have ra' : RawAt CR (upd H2 wa (.ins CW wdx (wF (.ref x)))) A (freshRaw p h n f) := ra.atWat nm hw2 fun _ z => nomatch z
      have okb := ok_begin c'
      have at_ : atI (nsV (freshRaw p h n f).room) p = some (nV ((tilesTo n).length - p.toNat * h.toNat)) := by
        have e1 : p = ((p.toNat : Nat) : Int) := by omega
        rw [e1]
        refine atI_nat ?_
        show (nsV (List.replicate (((p.toNat : Nat) : Int)).toNat h.toNat ++ [(tilesTo n).length - (((p.toNat : Nat) : Int)).toNat * h.toNat]))[p.toNat]? = _
        unfold nsV
        rw [Int.toNat_natCast, List.map_append, List.getElem?_append_right (by simp)]
        simp
      have hins : upd H2 wa (.ins CW wdx (wF (.ref x))) A.a = some (.ins CR A.dx (rawF A (freshRaw p h n f))) := ra'.ins
      rw [ea] at hins
      refine ⟨_, rfl, wa, CW, wdx, _, _, rfl, upd_same, TW.cl, TW.seen, wF_seen, x, CR, A.dx, _, _, rfl, hins, T.cl, T.room, rF_room, _, rfl, A.rm, _, _, _, rfl, rfl, SqL.of ra'.rm, at_, by show 1 ≤ sizeLine; decide, fun pa hpa => ?_⟩
      have spec := spec_begin z p h n f
      rw [if_neg c'] at spec
      refine q _ pa A ⟨fun b o e n1 n2 => ?_, fun b hb => .inr (free b hb)⟩ ?_ ?_ ?_
      · have e2 := kp b o (sx _ _ e) (ne_of_none e hx0)
        have e3 : upd H2 wa (.ins CW wdx (wF (.ref x))) b = some o := by
          rw [upd_ne n1]
          exact e2
        exact (same_new hpa) _ _ e3
      · rw [spec]
        have raB : RawAt CR (upd H2 wa (.ins CW wdx (wF (.ref x)))) A (rawOf (begun p.toNat h.toNat n.toNat f.toNat) [] [] []) := by
          rw [raw_begun g1 g2.1 g3 g4.1]
          exact ra'
        refine ⟨⟨wdx, ?_⟩, RoundAt.same ⟨[], [], [], kn_nil, lk_nil _, sh_nil, raB⟩ (same_new hpa), .inr okb⟩
        rw [ea]
        exact (same_new hpa) _ _ upd_same
      · have h2 : upd H2 wa (.ins CW wdx (wF (.ref x))) pa = none := hpa
        cases e : H pa with
        | none => rfl
        | some o =>
          by_cases nb : pa = wa
          · rw [nb, upd_same] at h2
            cases h2
          · have e2 := kp pa o (sx _ _ e) (ne_of_none e hx0)
            rw [upd_ne nb, e2] at h2
            cases h2
      · rw [upd_same, spec, tilesTo_full g3.1 g3.2]
        rfl
end
end Dm
/-! ## DmKnow -/
/-! A look at a tile; the deals; who may have a tile. -/
namespace Dm
open PySem PySem.Spec PyProof.Rows L2
open Kg86 (Tile full State)
theorem tellsT_b {ta : TE} {σ : L2.St} {H : Hp} {b : Bool} (h : Tells ta σ H (.bl b)) : TellsT (tB ta) σ H b := fun Q q => h _ ⟨b, rfl, q⟩
theorem tellsT_or {σ : L2.St} {H : Hp} {t u : TT} {a b : Bool} (h1 : TellsT t σ H a) (h2 : a = false → TellsT u σ H b) : TellsT (tOr t u) σ H (a || b) := fun Q q => h1 _ (by
  cases a with
  | true => exact iteT q
  | false => exact iteF (h2 rfl Q q))
/-- readings that make new things alone -/
def TellsS (te : TE) (σ : L2.St) (H : Hp) (v : V) : Prop := ∀ Q : VK, (∀ H' : Hp, Same H H' → Q v H') → te σ H Q
theorem neg_int {n : Int} {σ : L2.St} {H : Hp} {Q : VK} (h : Q (.int (-n)) H) : tUn (rU fun i => V.int (-i)) (tC (.int n)) σ H Q := ⟨n, rfl, h⟩

/-! ### what the watcher asks of its round -/
/-- the self.seen of slot 0 -/
abbrev tSeen (K : PySem.W.Frag) : TE := tFld K (tVar 0) "seen"
section
variable {K : PySem.W.Frag} {mg : Str → Option Value} {CR CW : Addr} {σ : L2.St} {H : Hp} {wa : Addr} {R : RA} {s : State}
theorem tells_seen (TW : TxtW K CW) (h0 : σ[0]? = some (some (.ref wa))) (wat : WatAt CW CR H wa R s) : Tells (tSeen K) σ H (.ref R.a) := fun Q q =>
  let ⟨⟨wdx, hw⟩, _, _⟩ := wat; ⟨_, h0, wa, CW, wdx, _, _, rfl, hw, TW.cl, TW.seen, wF_seen, q⟩
/-- a field of the round -/
theorem tells_field (TW : TxtW K CW) (T : TxtR K mg CR) (h0 : σ[0]? = some (some (.ref wa))) (wat : WatAt CW CR H wa R s) {nm : Str} {v : V} (na : NoAttr K CR nm) (hl : ∀ kn lk sh, RawAt CR H R (rawOf s kn lk sh) → KnRel kn s.known → LkRel lk s.lacks → ShRel sh s.shown → (rawF R (rawOf s kn lk sh)).lookup nm = some v) :
    Tells (tFld K (tSeen K) nm) σ H v := fun Q q => by
  obtain ⟨kn, lk, sh, hkn, hlk, hsh, ra⟩ := id wat.2.1
  exact tells_seen TW h0 wat _ ⟨R.a, CR, R.dx, _, _, rfl, ra.ins, T.cl, na, hl kn lk sh ra hkn hlk hsh, q⟩
theorem valid_of {x y : Int} (wat : WatAt CW CR H wa R s) (h : Kg86.isTile s x y = true) : Ok s := isTile_ok wat.2.2 h
theorem tup_tl {x y : Int} {t : Addr} (h : Kg86.isTile s x y = true) (ht : H t = some (.tup [.int (min x y), .int (max x y)])) : TupAt H (tl x y) (.ref t) := by
  obtain ⟨_, h1, h2⟩ := isTile_iff.mp h
  obtain ⟨e1, e2⟩ := tl_parts h1.1 h2.1
  refine ⟨t, rfl, ?_⟩
  rw [ht]
  unfold tileV nV
  rw [e1, e2]
theorem tells_has_tile (TW : TxtW K CW) (h0 : σ[0]? = some (some (.ref wa))) (wat : WatAt CW CR H wa R s) {i : Nat} {t : Addr} {x y : Int} (hi : σ[i]? = some (some (.ref t))) (ht : H t = some (.tup [.int (min x y), .int (max x y)])) :
    Tells (tMeth CR "has_tile" (spHasTile CR) [] E0 (tSeen K) (tCons (tVar i) tNil)) σ H (.bl (Kg86.isTile s x y)) := fun Q q => by
  obtain ⟨kn, lk, sh, hkn, hlk, hsh, ra⟩ := id wat.2.1
  refine tells_seen TW h0 wat _ ⟨R.a, R.dx, _, rfl, ra.ins, rF_no_has_tile, _, hi, R, s, t, _, _, rfl, wat.2.1, ht, ?_⟩
  rw [isTile_eq wat.2.2] at q
  exact q
theorem tells_has_place (TW : TxtW K CW) (h0 : σ[0]? = some (some (.ref wa))) (wat : WatAt CW CR H wa R s) {i : Nat} {k : Int} (hi : σ[i]? = some (some (.int k))) :
    Tells (tMeth CR "has_place" (spHasPlace CR) [] E0 (tSeen K) (tCons (tVar i) tNil)) σ H (.bl (Kg86.within k 0 (s.players : Int))) := fun Q q => by
  obtain ⟨kn, lk, sh, hkn, hlk, hsh, ra⟩ := id wat.2.1
  exact tells_seen TW h0 wat _ ⟨R.a, R.dx, _, rfl, ra.ins, rF_no_has_place, _, hi, R, s, k, rfl, wat.2.1, q⟩
theorem tells_over (TW : TxtW K CW) (h0 : σ[0]? = some (some (.ref wa))) (wat : WatAt CW CR H wa R s) :
    Tells (tMeth CR "is_over" (spIsOver CR) [] E0 (tSeen K) tNil) σ H (.bl s.over) := fun Q q => by
  obtain ⟨kn, lk, sh, hkn, hlk, hsh, ra⟩ := id wat.2.1
  exact tells_seen TW h0 wat _ ⟨R.a, R.dx, _, rfl, ra.ins, rF_no_is_over, R, s, rfl, wat.2.1, q⟩
theorem tells_lies (TW : TxtW K CW) (h0 : σ[0]? = some (some (.ref wa))) (wat : WatAt CW CR H wa R s) (ok : Ok s) {i : Nat} {v : V} {t : Tile} (hi : σ[i]? = some (some v)) (ht : TupAt H t v) :
    Tells (tMeth CR "lies" (spLies CR) [] E0 (tSeen K) (tCons (tVar i) tNil)) σ H (.bl (!s.unseen.contains t)) := fun Q q => by
  obtain ⟨kn, lk, sh, hkn, hlk, hsh, ra⟩ := id wat.2.1
  refine tells_seen TW h0 wat _ ⟨R.a, R.dx, _, rfl, ra.ins, rF_no_lies, _, hi, R, s, t, v, rfl, wat.2.1, ht, ?_⟩
  rw [ok.hid]
  exact q
theorem tells_known (TW : TxtW K CW) (T : TxtR K mg CR) (h0 : σ[0]? = some (some (.ref wa))) (wat : WatAt CW CR H wa R s) {i : Nat} {v : V} {t : Tile} (hi : σ[i]? = some (some v)) (ht : TupAt H t v) :
    Tells (tDIn (tVar i) (tFld K (tSeen K) "known")) σ H (.bl (s.known.any fun z => z.1 == t)) := fun Q q => by
  obtain ⟨kn, lk, sh, hkn, hlk, hsh, ra⟩ := id wat.2.1
  obtain ⟨tp, rfl, htp⟩ := ht
  have hkey : H tp = some (.tup ((tileK t).map kV)) := by
    unfold tileK
    rw [keyN_kV]
    exact htp
  refine ⟨_, hi, tells_seen TW h0 wat _ ⟨R.a, CR, R.dx, _, _, rfl, ra.ins, T.cl, T.known, rF_known, R.kn, _, rfl, .inr ⟨kn, tileK t, tp, .inl ra.kn, rfl, hkey, rfl⟩, ?_⟩⟩
  rw [known_some hkn]
  have e : (s.known.find? fun x => x.1 == t).isSome = s.known.any fun z => z.1 == t := by rw [List.isSome_find?]
  rw [e]
  exact q
end

theorem RawAt.free {CR : Addr} {H H' : Hp} {A : RA} {r : Raw} (ra : RawAt CR H' A r) (sb : SameBut A.all H H') {p : Addr} (h : H' p = none) : H p = none := by
  cases e : H p with
  | none => rfl
  | some o =>
    exfalso
    by_cases m : p ∈ A.all
    · unfold RA.all at m
      simp only [List.mem_cons, List.not_mem_nil, or_false] at m
      obtain ⟨_, h1, _⟩ := ra.ln
      obtain ⟨_, h2, _⟩ := ra.hd
      rcases m with w | w | w | w | w | w | w <;> rw [w] at h
      · rw [ra.ins] at h; cases h
      · rw [h1] at h; cases h
      · rw [h2] at h; cases h
      · rw [ra.rm] at h; cases h
      · rw [ra.kn] at h; cases h
      · rw [ra.lk] at h; cases h
      · rw [ra.sh] at h; cases h
    · rw [sb _ _ e m] at h
      cases h

/-! ### know -/
def spKnowRef (CW CR : Addr) : Sp := fun vs H Q _ => ∃ (wa : Addr) (R : RA) (s : State) (t : Addr) (k x y : Int), vs = [.ref wa, .int k, .ref t] ∧ WatAt CW CR H wa R s ∧ H t = some (.tup [.int (min x y), .int (max x y)]) ∧ ∀ H' : Hp, Same H H' → Q (.int (knowRef s k x y)) H'
def spKnow (CW CR : Addr) : Sp := fun vs H Q _ => ∃ (wa : Addr) (R : RA) (s : State) (k x y : Int), vs = [.ref wa, .int k, .int x, .int y] ∧ WatAt CW CR H wa R s ∧ WDone CW CR Q H wa R s (.know k x y)
def mayRef (s : State) (x y : Int) : Int := if s.players = 0 then -2 else if Kg86.isTile s x y = false then -1 else if (!s.unseen.contains (tl x y)) = true then -4 else 0
def spMayRef (CW CR : Addr) : Sp := fun vs H Q _ => ∃ (wa : Addr) (R : RA) (s : State) (t : Addr) (x y : Int), vs = [.ref wa, .ref t] ∧ WatAt CW CR H wa R s ∧ H t = some (.tup [.int (min x y), .int (max x y)]) ∧
  Q (.int (mayRef s x y)) H
def spMay (CW CR : Addr) : Sp := fun vs H Q _ => ∃ (wa : Addr) (R : RA) (s : State) (x y : Int), vs = [.ref wa, .int x, .int y] ∧ WatAt CW CR H wa R s ∧ WDone CW CR Q H wa R s (.may x y)
def spHasRound (CW CR : Addr) : Sp := fun vs H Q _ => ∃ (wa : Addr) (R : RA) (s : State), vs = [.ref wa] ∧ WatAt CW CR H wa R s ∧ Q (.bl (!decide (s.players = 0))) H
def spFitting (CW CR : Addr) : Sp := fun vs H Q _ => ∃ (wa : Addr) (R : RA) (s : State), vs = [.ref wa] ∧ WatAt CW CR H wa R s ∧ WDone CW CR Q H wa R s .deals
theorem ran_at {n i : Nat} (f : Nat → Nat) (h : i < n) : atI (nsV ((List.range n).map f)) (i : Int) = some (nV (f i)) := by
  have := atI_nV (l := (List.range n).map f) (i := i) (by simpa using h)
  rw [this, List.getD_eq_getElem?_getD, List.getElem?_map, List.getElem?_range h]
  rfl
section
variable {P : Program} {w : World} {K : PySem.W.Frag} {mg : Str → Option Value} {base : Heap} {CR CW : Addr} {f : Addr} {fd : FuncData}
theorem ok_know_refusal (F : Fun K "know_refusal" "Watcher.know_refusal" s_w_know_refusal f fd) (TW : TxtW K CW) (T : TxtR K mg CR) (M1 : HasM P w K mg base CR "has_tile" 1 ["self", "tile"] (spHasTile CR)) (M2 : HasM P w K mg base CR "has_place" 1 ["self", "place"] (spHasPlace CR))
    (M3 : HasM P w K mg base CR "is_over" 1 ["self"] (spIsOver CR)) (M4 : HasM P w K mg base CR "lies" 1 ["self", "tile"] (spLies CR)) (M5 : HasM P w K mg base CR "deals_by_place" 4 ["self", "tile"] (spDealsBy CR)) :
    FnOk P w K mg base CX0 5 f fd ["self", "place", "tile"] (spKnowRef CW CR) := by
  obtain ⟨f1, fd1, m1, G1, b1⟩ := M1
  obtain ⟨f2, fd2, m2, G2, b2⟩ := M2
  obtain ⟨f3, fd3, m3, G3, b3⟩ := M3
  obtain ⟨f4, fd4, m4, G4, b4⟩ := M4
  obtain ⟨f5, fd5, m5, G5, b5⟩ := M5
  refine F.ok sc_w_know_refusal (fun vs H Q E h => ?_) (fun cdv A outer s H vs Q E hr h => ?_)
  · obtain ⟨wa, R, s, t, k, x, y, rfl, _⟩ := h
    rfl
  · obtain ⟨wa, R, z, t, k, x, y, rfl, wat, ht, q⟩ := h
    have hr1 : Room 1 _ := hr.mono (by decide)
    have hr4 : Room 4 _ := hr.mono (by decide)
    have hu := hu_of hr
    refine ⟨_, pss_cons (ps_if (pt_not (PW.pt (pw_and (pt_val (pe_meth (pe_fld (pv 0) rfl) T.cl m1 G1 hr1 b1 .nil pass0 (pa_cons (pv 2) pa_nil))) (pw_and1 (pt_val (pe_meth (pe_fld (pv 0) rfl) T.cl m2 G2 hr1 b2 .nil pass0 (pa_cons (pv 1) pa_nil))))))) (pss_one (ps_ret (pe_un un_neg pe_int))) pss_nil)
      (pss_cons (ps_if (pt_val (pe_meth0 (pe_fld (pv 0) rfl) T.cl m3 G3 hr1 b3 .nil pass0)) (pss_one (ps_ret (pe_un un_neg pe_int))) pss_nil)
      (pss_cons (ps_if (PW.pt (pw_or (pt_val (pe_meth (pe_fld (pv 0) rfl) T.cl m4 G4 hr1 b4 .nil pass0 (pa_cons (pv 2) pa_nil))) (pw_or1 (pt_cmp (pc_din hu (pv 2) (pe_fld (pe_fld (pv 0) rfl) rfl)))))) (pss_one (ps_ret (pe_un un_neg pe_int))) pss_nil)
      (pss_cons (ps_if (pt_cmpR op_eq (pe_ix ix_list (pe_meth (pe_fld (pv 0) rfl) T.cl m5 G5 hr4 b5 .nil pass0 (pa_cons (pv 2) pa_nil)) (pv 1) (fun _ _ => rfl)) pe_int (nomark _)) (pss_one (ps_ret (pe_un un_neg pe_int))) pss_nil)
      (pss_one (ps_ret pe_int))))), ?_⟩
    unfold knowRef at q
    refine seq_if (tellsT_not (tellsT_and (tellsT_b (tells_has_tile TW rfl wat rfl ht)) fun _ => tellsT_b (tells_has_place TW rfl wat rfl))) ?_
    by_cases c1 : (Kg86.isTile z x y && Kg86.within k 0 (z.players : Int)) = false
    · rw [if_pos c1] at q
      rw [c1]
      exact iteT (neg_int (q H (Same.refl H)))
    rw [if_neg c1] at q
    have a1 := eqT c1
    rw [a1]
    refine iteF ?_
    rw [Bool.and_eq_true, within_iff] at a1
    have ok := valid_of wat a1.1
    refine seq_if (tellsT_b (tells_over TW rfl wat)) ?_
    by_cases c2 : z.over = true
    · rw [if_pos c2] at q
      rw [c2]
      exact iteT (neg_int (q H (Same.refl H)))
    rw [if_neg c2] at q
    rw [Bool.eq_false_iff.mpr c2]
    refine iteF ?_
    have htl := tup_tl a1.1 ht
    refine seq_if (tellsT_or (tellsT_b (tells_lies TW rfl wat ok rfl htl)) fun _ => tellsT_b (tells_known TW T rfl wat rfl htl)) ?_
    by_cases c3 : (!z.unseen.contains (tl x y) || z.known.any fun u => u.1 == tl x y) = true
    · rw [if_pos c3] at q
      rw [c3]
      exact iteT (neg_int (q H (Same.refl H)))
    rw [if_neg c3] at q
    rw [Bool.eq_false_iff.mpr c3]
    refine iteF ?_
    have c3' := Bool.or_eq_false_iff.mp (Bool.eq_false_iff.mpr c3)
    have mem : tl x y ∈ z.unseen := List.contains_iff_mem.mp (by simpa using c3'.1)
    obtain ⟨⟨wdx, hw⟩, ⟨kn, lk, sh, hkn, hlk, hsh, ra⟩, _⟩ := id wat
    refine ⟨_, rfl, wa, CW, wdx, _, _, rfl, hw, TW.cl, TW.seen, wF_seen, R.a, R.dx, _, rfl, ra.ins, rF_no_deals_by_place, _, rfl, R, z, tl x y, _, rfl, ok, mem, wat.2.1, htl, fun H1 p s1 hp0 hp => ?_⟩
    have ek : k = ((k.toNat : Nat) : Int) := by omega
    have at_ : atI (nsV ((List.range (z.players + 1)).map fun j => z.dealsWith (tl x y) j)) k = some (nV (z.dealsWith (tl x y) k.toNat)) := by
      have := ran_at (fun j => z.dealsWith (tl x y) j) (i := k.toNat) (n := z.players + 1) (by
        have := a1.2.2
        omega)
      rw [← ek] at this
      exact this
    refine ⟨_, rfl, p, _, _, _, rfl, rfl, SqL.of hp, at_, rfl, _, rfl, ?_⟩
    refine ite2 (fun c => ?_) (fun c => ?_)
    · have c4 : z.dealsWith (tl x y) k.toNat = 0 := by
        have := of_decide_eq_true c
        unfold nV at this
        injection this with this
        omega
      rw [if_pos c4] at q
      exact neg_int (q H1 s1)
    · have c4 : ¬ z.dealsWith (tl x y) k.toNat = 0 := fun e => c (decide_eq_true (by rw [e]; rfl))
      rw [if_neg c4] at q
      exact q H1 s1
theorem ok_w_know (F : Fun K "know" "Watcher.know" s_w_know f fd) (TW : TxtW K CW) (T : TxtR K mg CR) (C : HasF P w K mg base "tile_of" 1 ["one", "other"] spTileOf) (M1 : HasM P w K mg base CW "know_refusal" 5 ["self", "place", "tile"] (spKnowRef CW CR))
    (M2 : HasM P w K mg base CR "note_known" 1 ["self", "tile", "place"] (spNoteKnown CR)) : FnOk P w K mg base CX0 6 f fd ["self", "place", "one", "other"] (spKnow CW CR) := by
  obtain ⟨f0, fd0, m0, kp0, G0, b0⟩ := C
  obtain ⟨f1, fd1, m1, G1, b1⟩ := M1
  obtain ⟨f2, fd2, m2, G2, b2⟩ := M2
  refine F.ok sc_w_know (fun vs H Q E h => ?_) (fun cdv A outer s H vs Q E hr h => ?_)
  · obtain ⟨wa, R, s, k, x, y, rfl, _⟩ := h
    rfl
  · obtain ⟨wa, R, z, k, x, y, rfl, wat, q⟩ := h
    have hr1 : Room 1 _ := hr.mono (by decide)
    have hr5 : Room 5 _ := hr.mono (by decide)
    have nd := sc_w_know.nd
    refine ⟨_, pss_cons (ps_set (i := 4) nd rfl (Or.inl rfl) (pe_call G0 hr1 rfl m0 kp0 b0 .nil pass0 (pa_cons (pv 2) (pa_cons (pv 3) pa_nil))))
      (pss_cons (ps_set (i := 5) nd rfl (Or.inl rfl) (pe_meth (pv 0) TW.cl m1 G1 hr5 b1 .nil pass0 (pa_cons (pv 1) (pa_cons (pv 4) pa_nil))))
      (pss_cons (ps_if (pt_cmpR op_lt (pv 5) pe_int (nomark _)) (pss_one (ps_ret (pe_lst (pa_cons (pv 5) pa_nil)))) pss_nil)
      (pss_cons (ps_expr (pe_meth (pe_fld (pv 0) rfl) T.cl m2 G2 hr1 b2 .nil pass0 (pa_cons (pv 4) (pa_cons (pv 1) pa_nil))))
      (pss_one (ps_ret (pe_lst (pa_cons (pe_callB call_len_dT (by rfl) T.len PySem.boot_len (pa_cons (pe_fld (pe_fld (pv 0) rfl) rfl) pa_nil)) pa_nil))))))), ?_⟩
    refine ⟨_, rfl, _, rfl, x, y, rfl, fun H1 t s1 ht => ?_⟩
    obtain ⟨⟨wdx, hw⟩, rat, val⟩ := id (wat.same s1)
    refine ⟨_, rfl, wa, wdx, _, rfl, hw, wF_no_know_refusal, _, rfl, _, rfl, wa, R, z, t, k, x, y, rfl, wat.same s1, ht, fun H2 s2 => ?_⟩
    have s12 := s1.trans s2
    have spec := spec_know z k x y
    refine ⟨_, rfl, _, _, rfl, rfl, _, rfl, ?_⟩
    refine ite2 (fun c => ?_) (fun c => ?_)
    · have c' : knowRef z k x y < 0 := of_decide_eq_true c
      rw [if_pos c'] at spec
      exact ⟨_, rfl, by show 1 ≤ sizeLine; decide, fun pa hpa => q.refused wat s12 spec hpa⟩
    · have c' : ¬ knowRef z k x y < 0 := fun e => c (decide_eq_true e)
      rw [if_neg c'] at spec
      obtain ⟨g1, g2, g3, g4, g5⟩ := knowRef_pos c'
      have ok := val.ok_of_over g3
      have wat2 := wat.same s12
      obtain ⟨⟨wdx2, hw2⟩, ⟨kn, lk, sh, hkn, hlk, hsh, ra⟩, _⟩ := id wat2
      have htl : TupAt H2 (tl x y) (.ref t) := tup_tl g1 (s2 _ _ ht)
      have ek : V.int k = nV k.toNat := by
        unfold nV
        rw [Int.toNat_of_nonneg g2.1]
      have klen : kn.length < sizeLine := by
        rw [hkn.len]
        exact Nat.lt_of_le_of_lt (known_short ok) (by decide)
      refine ⟨_, rfl, wa, CW, wdx2, _, _, rfl, hw2, TW.cl, TW.seen, wF_seen, R.a, R.dx, _, rfl, ra.ins, rF_no_note_known, _, rfl, _, rfl, R, _, tl x y, _, k.toNat, by rw [← ek]; rfl, ra, htl, klen, fun H3 sb3 ra3 => ?_⟩
      have nw := wat2.out
      have hw3 : H3 wa = some (.ins CW wdx2 (wF (.ref R.a))) := sb3 _ _ hw2 nw
      have wat3 : WatAt CW CR H3 wa R (knowBy z (tl x y) k.toNat) := ⟨⟨wdx2, hw3⟩, ⟨_, lk, sh, kn_put hkn g5, hlk, hsh, ra3⟩, .inr (valid_know val c')⟩
      refine ⟨_, rfl, wa, CW, wdx2, _, _, rfl, hw3, TW.cl, TW.seen, wF_seen, R.a, CR, R.dx, _, _, rfl, ra3.ins, T.cl, T.known, rF_known, R.kn, _, rfl, ra3.kn, by show 1 ≤ sizeLine; decide, fun pa hpa => ?_⟩
      refine q _ pa R ((frame_but ((but_same s12 _).trans sb3)).then_same (same_new hpa)) ?_ ?_ ?_
      · rw [spec]
        exact wat3.same (same_new hpa)
      · exact ra3.free ((but_same s12 _).trans sb3) hpa
      · rw [upd_same, spec]
        show some (HO.lst [V.int (((putK kn (tileK (tl x y)) (nV k.toNat)).length : Nat) : Int)]) = some (HO.lst [V.int ((z.known.length + 1 : Nat) : Int)])
        rw [(kn_put hkn g5 (k := k.toNat)).len]
        simp
theorem ok_has_round (F : Fun K "has_round" "Watcher.has_round" s_w_has_round f fd) (TW : TxtW K CW) (T : TxtR K mg CR) : FnOk P w K mg base CX0 1 f fd ["self"] (spHasRound CW CR) := by
  refine F.ok sc_w_has_round (fun vs H Q E h => ?_) (fun cdv A outer s H vs Q E hr h => ?_)
  · obtain ⟨wa, R, s, rfl, _⟩ := h
    rfl
  · obtain ⟨wa, R, z, rfl, wat, q⟩ := h
    refine ⟨_, pss_one (ps_ret (pe_cmpR op_gt (pe_fld (pe_fld (pv 0) rfl) rfl) pe_int (nomark _))), ?_⟩
    obtain ⟨⟨wdx, hw⟩, ⟨kn, lk, sh, hkn, hlk, hsh, ra⟩, _⟩ := id wat
    refine ⟨_, rfl, wa, CW, wdx, _, _, rfl, hw, TW.cl, TW.seen, wF_seen, R.a, CR, R.dx, _, _, rfl, ra.ins, T.cl, T.players, rF_players, _, _, rfl, rfl, ?_⟩
    have e : decide ((0 : Int) < ((z.left.length : Nat) : Int)) = !decide (z.players = 0) := by
      unfold State.players
      by_cases c : z.left.length = 0
      · rw [decide_eq_true c]
        exact decide_eq_false (by omega)
      · rw [decide_eq_false c]
        exact decide_eq_true (by omega)
    rw [← e] at q
    exact q
theorem ok_fitting (F : Fun K "count_fitting" "Watcher.count_fitting" s_w_count_fitting f fd) (TW : TxtW K CW) (T : TxtR K mg CR) (M1 : HasM P w K mg base CW "has_round" 1 ["self"] (spHasRound CW CR)) (M2 : HasM P w K mg base CR "deals" 4 ["self"] (spDeals CR)) :
    FnOk P w K mg base CX0 5 f fd ["self"] (spFitting CW CR) := by
  obtain ⟨f1, fd1, m1, G1, b1⟩ := M1
  obtain ⟨f2, fd2, m2, G2, b2⟩ := M2
  refine F.ok sc_w_count_fitting (fun vs H Q E h => ?_) (fun cdv A outer s H vs Q E hr h => ?_)
  · obtain ⟨wa, R, s, rfl, _⟩ := h
    rfl
  · obtain ⟨wa, R, z, rfl, wat, q⟩ := h
    have hr1 : Room 1 _ := hr.mono (by decide)
    have hr4 : Room 4 _ := hr.mono (by decide)
    refine ⟨_, pss_cons (ps_if (pt_not (pt_val (pe_meth0 (pv 0) TW.cl m1 G1 hr1 b1 .nil pass0))) (pss_one (ps_ret (pe_lst (pa_cons (pe_un un_neg pe_int) pa_nil)))) pss_nil)
      (pss_one (ps_ret (pe_lst (pa_cons (pe_meth0 (pe_fld (pv 0) rfl) T.cl m2 G2 hr4 b2 .nil pass0) pa_nil)))), ?_⟩
    obtain ⟨⟨wdx, hw⟩, ⟨kn, lk, sh, hkn, hlk, hsh, ra⟩, val⟩ := id wat
    have spec : Kg86.spec z .deals = if z.players = 0 then (z, Kg86.num (-2)) else (z, Kg86.num (z.deals : Nat)) := rfl
    refine ⟨_, rfl, wa, wdx, _, rfl, hw, wF_no_has_round, wa, R, z, rfl, wat, _, rfl, ?_⟩
    by_cases c : z.players = 0
    · rw [if_pos c] at spec
      rw [decide_eq_true c]
      exact iteT ⟨2, rfl, by show 1 ≤ sizeLine; decide, fun pa hpa => q.refused wat (Same.refl H) spec hpa⟩
    · rw [if_neg c] at spec
      rw [decide_eq_false c]
      refine iteF ?_
      have ok := val.ok fun e => c (by unfold State.players; rw [e]; rfl)
      refine ⟨_, rfl, wa, CW, wdx, _, _, rfl, hw, TW.cl, TW.seen, wF_seen, R.a, R.dx, _, rfl, ra.ins, rF_no_deals, R, z, rfl, ok, wat.2.1, fun H1 s1 => ?_⟩
      refine ⟨by show 1 ≤ sizeLine; decide, fun pa hpa => ?_⟩
      refine q _ pa R (frame_same (s1.trans (same_new hpa))) ?_ (same_free s1 hpa) ?_
      · rw [spec]
        exact wat.same (s1.trans (same_new hpa))
      · rw [upd_same, spec]
        rfl
theorem ok_may_refusal (F : Fun K "may_refusal" "Watcher.may_refusal" s_w_may_refusal f fd) (TW : TxtW K CW) (T : TxtR K mg CR) (M1 : HasM P w K mg base CW "has_round" 1 ["self"] (spHasRound CW CR)) (M2 : HasM P w K mg base CR "has_tile" 1 ["self", "tile"] (spHasTile CR))
    (M4 : HasM P w K mg base CR "lies" 1 ["self", "tile"] (spLies CR)) : FnOk P w K mg base CX0 2 f fd ["self", "tile"] (spMayRef CW CR) := by
  obtain ⟨f1, fd1, m1, G1, b1⟩ := M1
  obtain ⟨f2, fd2, m2, G2, b2⟩ := M2
  obtain ⟨f4, fd4, m4, G4, b4⟩ := M4
  refine F.ok sc_w_may_refusal (fun vs H Q E h => ?_) (fun cdv A outer s H vs Q E hr h => ?_)
  · obtain ⟨wa, R, s, t, x, y, rfl, _⟩ := h
    rfl
  · obtain ⟨wa, R, z, t, x, y, rfl, wat, ht, q⟩ := h
    have hr1 : Room 1 _ := hr.mono (by decide)
    refine ⟨_, pss_cons (ps_if (pt_not (pt_val (pe_meth0 (pv 0) TW.cl m1 G1 hr1 b1 .nil pass0))) (pss_one (ps_ret (pe_un un_neg pe_int))) pss_nil)
      (pss_cons (ps_if (pt_not (pt_val (pe_meth (pe_fld (pv 0) rfl) T.cl m2 G2 hr1 b2 .nil pass0 (pa_cons (pv 1) pa_nil)))) (pss_one (ps_ret (pe_un un_neg pe_int))) pss_nil)
      (pss_cons (ps_if (pt_val (pe_meth (pe_fld (pv 0) rfl) T.cl m4 G4 hr1 b4 .nil pass0 (pa_cons (pv 1) pa_nil))) (pss_one (ps_ret (pe_un un_neg pe_int))) pss_nil)
      (pss_one (ps_ret pe_int)))), ?_⟩
    obtain ⟨⟨wdx, hw⟩, ⟨kn, lk, sh, hkn, hlk, hsh, ra⟩, val⟩ := id wat
    unfold mayRef at q
    refine ⟨_, rfl, wa, wdx, _, rfl, hw, wF_no_has_round, wa, R, z, rfl, wat, _, rfl, ?_⟩
    by_cases c : z.players = 0
    · rw [if_pos c] at q
      rw [decide_eq_true c]
      exact iteT (neg_int q)
    rw [if_neg c] at q
    rw [decide_eq_false c]
    refine iteF ?_
    refine seq_if (tellsT_not (tellsT_b (tells_has_tile TW rfl wat rfl ht))) ?_
    by_cases c1 : Kg86.isTile z x y = false
    · rw [if_pos c1] at q
      rw [c1]
      exact iteT (neg_int q)
    rw [if_neg c1] at q
    have a1 := eqT c1
    rw [a1]
    refine iteF ?_
    refine seq_if (tellsT_b (tells_lies TW rfl wat (valid_of wat a1) rfl (tup_tl a1 ht))) ?_
    by_cases c2 : (!z.unseen.contains (tl x y)) = true
    · rw [if_pos c2] at q
      rw [c2]
      exact iteT (neg_int q)
    · rw [if_neg c2] at q
      rw [Bool.eq_false_iff.mpr c2]
      exact iteF q
theorem ok_w_may (F : Fun K "may" "Watcher.may" s_w_may f fd) (TW : TxtW K CW) (T : TxtR K mg CR) (C : HasF P w K mg base "tile_of" 1 ["one", "other"] spTileOf) (M1 : HasM P w K mg base CW "may_refusal" 2 ["self", "tile"] (spMayRef CW CR))
    (M2 : HasM P w K mg base CR "places_of" 2 ["self", "tile"] (spPlacesOf CR)) (M5 : HasM P w K mg base CR "deals_by_place" 4 ["self", "tile"] (spDealsBy CR)) : FnOk P w K mg base CX0 5 f fd ["self", "one", "other"] (spMay CW CR) := by
  obtain ⟨f0, fd0, m0, kp0, G0, b0⟩ := C
  obtain ⟨f1, fd1, m1, G1, b1⟩ := M1
  obtain ⟨f2, fd2, m2, G2, b2⟩ := M2
  obtain ⟨f5, fd5, m5, G5, b5⟩ := M5
  refine F.ok sc_w_may (fun vs H Q E h => ?_) (fun cdv A outer s H vs Q E hr h => ?_)
  · obtain ⟨wa, R, s, x, y, rfl, _⟩ := h
    rfl
  · obtain ⟨wa, R, z, x, y, rfl, wat, q⟩ := h
    have hr1 : Room 1 _ := hr.mono (by decide)
    have hr2 : Room 2 _ := hr.mono (by decide)
    have hr4 : Room 4 _ := hr.mono (by decide)
    have nd := sc_w_may.nd
    refine ⟨_, pss_cons (ps_set (i := 3) nd rfl (Or.inl rfl) (pe_call G0 hr1 rfl m0 kp0 b0 .nil pass0 (pa_cons (pv 1) (pa_cons (pv 2) pa_nil))))
      (pss_cons (ps_set (i := 4) nd rfl (Or.inl rfl) (pe_meth (pv 0) TW.cl m1 G1 hr2 b1 .nil pass0 (pa_cons (pv 3) pa_nil)))
      (pss_cons (ps_if (pt_cmpR op_lt (pv 4) pe_int (nomark _)) (pss_one (ps_ret (pe_lst (pa_cons (pv 4) pa_nil)))) pss_nil)
      (pss_one (ps_ret (pe_op op_cat (pe_lst (pa_cons (pe_callB call_len_seq (by rfl) T.len PySem.boot_len (pa_cons (pe_meth (pe_fld (pv 0) rfl) T.cl m2 G2 hr2 b2 .nil pass0 (pa_cons (pv 3) pa_nil)) pa_nil)) pa_nil))
        (pe_meth (pe_fld (pv 0) rfl) T.cl m5 G5 hr4 b5 .nil pass0 (pa_cons (pv 3) pa_nil))))))), ?_⟩
    refine ⟨_, rfl, _, rfl, x, y, rfl, fun H1 t s1 ht => ?_⟩
    have wat1 := wat.same s1
    obtain ⟨⟨wdx, hw⟩, ⟨kn, lk, sh, hkn, hlk, hsh, ra⟩, val⟩ := id wat1
    refine ⟨_, rfl, wa, wdx, _, rfl, hw, wF_no_may_refusal, _, rfl, wa, R, z, t, x, y, rfl, wat1, ht, ?_⟩
    have spec : Kg86.spec z (.may x y) = if z.players = 0 then (z, Kg86.num (-2)) else if Kg86.isTile z x y = false then (z, Kg86.num (-1)) else
      if z.unseen.contains (tl x y) = false then (z, Kg86.num (-4)) else (z, ⟨((z.owners (tl x y)).length : Nat), Kg86.whole ((List.range (z.players + 1)).map fun k => z.dealsWith (tl x y) k)⟩) := rfl
    unfold mayRef
    refine ⟨_, rfl, _, _, rfl, rfl, _, rfl, ?_⟩
    by_cases c : z.players = 0
    · rw [if_pos c] at spec
      rw [if_pos c]
      exact ite2 (fun _ => ⟨_, rfl, by show 1 ≤ sizeLine; decide, fun pa hpa => q.refused wat s1 spec hpa⟩) fun n => absurd (by decide) n
    rw [if_neg c] at spec ⊢
    by_cases c1 : Kg86.isTile z x y = false
    · rw [if_pos c1] at spec
      rw [if_pos c1]
      exact ite2 (fun _ => ⟨_, rfl, by show 1 ≤ sizeLine; decide, fun pa hpa => q.refused wat s1 spec hpa⟩) fun n => absurd (by decide) n
    rw [if_neg c1] at spec ⊢
    have a1 := eqT c1
    by_cases c2 : z.unseen.contains (tl x y) = false
    · rw [if_pos c2] at spec
      rw [c2]
      exact ite2 (fun _ => ⟨_, rfl, by show 1 ≤ sizeLine; decide, fun pa hpa => q.refused wat s1 spec hpa⟩) fun n => absurd (by decide) n
    rw [if_neg c2] at spec
    have a2 := eqT c2
    rw [a2]
    refine ite2 (fun n => absurd n (by decide)) fun _ => ?_
    have ok := valid_of wat a1
    have htl := tup_tl a1 ht
    refine ⟨_, rfl, wa, CW, wdx, _, _, rfl, hw, TW.cl, TW.seen, wF_seen, R.a, R.dx, _, rfl, ra.ins, rF_no_places_of, _, rfl, R, z, tl x y, _, rfl, ok, wat1.2.1, htl, fun H2 p s2 hp0 hp => ?_⟩
    refine ⟨p, _, rfl, .inl (SqL.of hp), by show 1 ≤ sizeLine; decide, fun l hl => ?_⟩
    rw [nsV_len]
    have s3 := s2.trans (same_new (o := .lst [V.int (((z.owners (tl x y)).length : Nat) : Int)]) hl)
    have wat3 := wat1.same s3
    obtain ⟨tp, etp, htp⟩ := id htl
    refine ⟨_, rfl, wa, CW, wdx, _, _, rfl, s3 _ _ hw, TW.cl, TW.seen, wF_seen, R.a, R.dx, _, rfl, s3 _ _ ra.ins, rF_no_deals_by_place, _, rfl, R, z, tl x y, _, rfl, ok, List.contains_iff_mem.mp a2, wat3.2.1, ⟨tp, etp, s3 _ _ htp⟩, fun H4 p4 s4 hp40 hp4 => ?_⟩
    have hl4 := s4 _ _ (upd_same (H := H2) (a := l) (o := .lst [V.int (((z.owners (tl x y)).length : Nat) : Int)]))
    refine ⟨l, p4, _, _, rfl, rfl, hl4, hp4, ?_, fun pa hpa => ?_⟩
    · rw [nsV_len, List.length_map, List.length_range]
      have h2 := ok.few.2
      have h3 : z.players = z.left.length := rfl
      exact Nat.le_trans (by simp only [List.length_cons, List.length_nil]; omega : _ ≤ 100) (by decide)
    · have s5 := ((s1.trans s3).trans s4).trans (same_new (o := .lst ([V.int (((z.owners (tl x y)).length : Nat) : Int)] ++ nsV ((List.range (z.players + 1)).map fun k => z.dealsWith (tl x y) k))) hpa)
      refine q _ pa R (frame_same s5) ?_ (same_free ((s1.trans s3).trans s4) hpa) ?_
      · rw [spec]
        exact wat.same s5
      · rw [upd_same, spec]
        show some (HO.lst (V.int _ :: nsV _)) = some (HO.lst (V.int _ :: List.map V.int (Kg86.whole _)))
        unfold nsV Kg86.whole
        rw [List.map_map, List.map_map, List.map_map]
        rfl
end
end Dm
/-! ## DmPlay -/
/-! A tile played, a pass. -/
namespace Dm
open PySem PySem.Spec PyProof.Rows L2
open Kg86 (Tile full State)
def TellsTS (t : TT) (σ : L2.St) (H : Hp) (b : Bool) : Prop := ∀ Q : Bool → Hp → Prop, (∀ H' : Hp, Same H H' → Q b H') → t σ H Q
section
variable {σ : L2.St} {H : Hp} {te : TE} {t u : TT} {a b : Bool}
theorem tellsTS_of (h : TellsT t σ H b) : TellsTS t σ H b := fun Q q => h _ (q H (Same.refl H))
theorem tellsTS_or (h1 : TellsT t σ H a) (h2 : a = false → TellsTS u σ H b) : TellsTS (tOr t u) σ H (a || b) := fun Q q => h1 _ (by
  cases a with
  | true => exact iteT (q H (Same.refl H))
  | false => exact iteF (h2 rfl Q q))
theorem tellsTS_not (h1 : TellsTS t σ H a) : TellsTS (tNot t) σ H (!a) := fun Q q => h1 _ q
theorem tellsTS_b (h : TellsS te σ H (.bl b)) : TellsTS (tB te) σ H b := fun Q q => h _ fun H' s => ⟨b, rfl, q H' s⟩
theorem tellsTS_t (h : TellsS te σ H (.bl b)) : TellsTS (tTest te) σ H b := fun Q q => h _ fun H' s => ⟨b, rfl, q H' s⟩
theorem seq_ifS {c : TT} {t u rest : TS} {D : Ends} (h : TellsTS c σ H b) (k : ∀ H' : Hp, Same H H' → if b = true then t { D with nx := rest D } σ H' else u { D with nx := rest D } σ H') : tSeq (tIfS c t u) rest D σ H := h _ k
end
def spPlayRef (CW CR : Addr) : Sp := fun vs H Q _ => ∃ (wa : Addr) (R : RA) (s : State) (t : Addr) (x y side : Int), vs = [.ref wa, .ref t, .int side] ∧ WatAt CW CR H wa R s ∧ H t = some (.tup [.int (min x y), .int (max x y)]) ∧ ∀ H' : Hp, Same H H' → Q (.int (playRef s x y side)) H'
def spPlay (CW CR : Addr) : Sp := fun vs H Q _ => ∃ (wa : Addr) (R : RA) (s : State) (x y side : Int), vs = [.ref wa, .int x, .int y, .int side] ∧ WatAt CW CR H wa R s ∧ WDone CW CR Q H wa R s (.play x y side)
def spPassRef (CW CR : Addr) : Sp := fun vs H Q _ => ∃ (wa : Addr) (R : RA) (s : State), vs = [.ref wa] ∧ WatAt CW CR H wa R s ∧ ∀ H' : Hp, Same H H' → Q (.int (passRef s)) H'
def spPassBy (CW CR : Addr) : Sp := fun vs H Q _ => ∃ (wa : Addr) (R : RA) (s : State), vs = [.ref wa] ∧ WatAt CW CR H wa R s ∧ WDone CW CR Q H wa R s .pass
structure TxtS (mg : Str → Option Value) : Prop where
  left : ∃ tk, mg "LEFT" = some (.int 0 tk)
  right : ∃ tk, mg "RIGHT" = some (.int 1 tk)
section
variable {P : Program} {w : World} {K : PySem.W.Frag} {mg : Str → Option Value} {base : Heap} {CR CW : Addr} {f : Addr} {fd : FuncData}
/-- [n] + self.seen.stands() -/
theorem stands_cat {z : State} (ok : z.left.length ≤ 4) : (toldV z).length ≤ 10 := by
  unfold toldV Kg86.told Kg86.endsTold Kg86.whole
  cases z.ends <;> simp <;> omega
theorem ok_play_refusal (F : Fun K "play_refusal" "Watcher.play_refusal" s_w_play_refusal f fd) (TW : TxtW K CW) (T : TxtR K mg CR) (TS' : TxtS mg) (M1 : HasM P w K mg base CR "has_tile" 1 ["self", "tile"] (spHasTile CR))
    (M3 : HasM P w K mg base CR "is_over" 1 ["self"] (spIsOver CR)) (M4 : HasM P w K mg base CR "lies" 1 ["self", "tile"] (spLies CR)) (M6 : HasM P w K mg base CR "fits" 2 ["self", "tile", "side"] (spFits CR)) (M5 : HasM P w K mg base CR "deals_by_place" 4 ["self", "tile"] (spDealsBy CR)) :
    FnOk P w K mg base CX0 5 f fd ["self", "tile", "side"] (spPlayRef CW CR) := by
  obtain ⟨f1, fd1, m1, G1, b1⟩ := M1
  obtain ⟨f3, fd3, m3, G3, b3⟩ := M3
  obtain ⟨f4, fd4, m4, G4, b4⟩ := M4
  obtain ⟨f5, fd5, m5, G5, b5⟩ := M5
  obtain ⟨f6, fd6, m6, G6, b6⟩ := M6
  obtain ⟨tk0, mL⟩ := TS'.left
  obtain ⟨tk1, mR⟩ := TS'.right
  refine F.ok sc_w_play_refusal (fun vs H Q E h => ?_) (fun cdv A outer s H vs Q E hr h => ?_)
  · obtain ⟨wa, R, s, t, x, y, side, rfl, _⟩ := h
    rfl
  · obtain ⟨wa, R, z, t, x, y, side, rfl, wat, ht, q⟩ := h
    have hr1 : Room 1 _ := hr.mono (by decide)
    have hr2 : Room 2 _ := hr.mono (by decide)
    have hr4 : Room 4 _ := hr.mono (by decide)
    refine ⟨_, pss_cons (ps_if (PW.pt (pw_or (pt_not (pt_val (pe_meth (pe_fld (pv 0) rfl) T.cl m1 G1 hr1 b1 .nil pass0 (pa_cons (pv 1) pa_nil))))
          (pw_or1 (pt_cmpR op_notIn_seq (pv 2) (pe_tup (pa_cons (pe_glob (v := V.int 0) rfl mL ⟨_, rfl⟩) (pa_cons (pe_glob (v := V.int 1) rfl mR ⟨_, rfl⟩) pa_nil))) (by rfl))))) (pss_one (ps_ret (pe_un un_neg pe_int))) pss_nil)
      (pss_cons (ps_if (pt_val (pe_meth0 (pe_fld (pv 0) rfl) T.cl m3 G3 hr1 b3 .nil pass0)) (pss_one (ps_ret (pe_un un_neg pe_int))) pss_nil)
      (pss_cons (ps_if (pt_val (pe_meth (pe_fld (pv 0) rfl) T.cl m4 G4 hr1 b4 .nil pass0 (pa_cons (pv 1) pa_nil))) (pss_one (ps_ret (pe_un un_neg pe_int))) pss_nil)
      (pss_cons (ps_if (pt_not (pt_val (pe_meth (pe_fld (pv 0) rfl) T.cl m6 G6 hr2 b6 .nil pass0 (pa_cons (pv 1) (pa_cons (pv 2) pa_nil))))) (pss_one (ps_ret (pe_un un_neg pe_int))) pss_nil)
      (pss_cons (ps_if (pt_cmpR op_eq (pe_ix ix_list (pe_meth (pe_fld (pv 0) rfl) T.cl m5 G5 hr4 b5 .nil pass0 (pa_cons (pv 1) pa_nil)) (pe_fld (pe_fld (pv 0) rfl) rfl) (fun _ _ => rfl)) pe_int (nomark _)) (pss_one (ps_ret (pe_un un_neg pe_int))) pss_nil)
      (pss_one (ps_ret pe_int)))))), ?_⟩
    unfold playRef at q
    have sides : TellsS (tOp (rIn K true) (tVar 2) (tTup (tCons (tC (V.int 0)) (tCons (tC (V.int 1)) tNil)))) (L2.start ["self", "tile", "side"] [V.ref wa, V.ref t, V.int side]) H (.bl (!Kg86.within side 0 1)) := fun Q' q' => by
      refine ⟨_, rfl, by show 2 ≤ sizeLine; decide, fun tp htp => ?_⟩
      refine ⟨tp, _, rfl, .inr (SqT.of upd_same), rfl, rfl, ?_⟩
      have e : inV (V.int side) [V.int 0, V.int 1] = Kg86.within side 0 1 := by
        show ((0 : Int) == side || ((1 : Int) == side || false)) = (decide (0 ≤ side) && decide (side ≤ 1))
        rw [Bool.eq_iff_iff]
        simp
        omega
      rw [e]
      exact q' _ (same_new htp)
    refine seq_ifS (tellsTS_or (tellsT_not (tellsT_b (tells_has_tile TW rfl wat rfl ht))) fun _ => tellsTS_t sides) fun H0 s0 => ?_
    by_cases c1 : (Kg86.isTile z x y && Kg86.within side 0 1) = false
    · rw [if_pos c1] at q
      have e : (!Kg86.isTile z x y || !Kg86.within side 0 1) = true := by
        revert c1
        cases Kg86.isTile z x y <;> cases Kg86.within side 0 1 <;> simp
      rw [e]
      exact iteT (neg_int (q H0 s0))
    rw [if_neg c1] at q
    have a1 := eqT c1
    have e1 : (!Kg86.isTile z x y || !Kg86.within side 0 1) = false := by
      revert a1
      cases Kg86.isTile z x y <;> cases Kg86.within side 0 1 <;> simp
    rw [e1]
    refine iteF ?_
    rw [Bool.and_eq_true, within_iff] at a1
    have wat0 := wat.same s0
    have ht0 := s0 _ _ ht
    have ok := valid_of wat a1.1
    refine seq_if (tellsT_b (tells_over TW rfl wat0)) ?_
    by_cases c2 : z.over = true
    · rw [if_pos c2] at q
      rw [c2]
      exact iteT (neg_int (q H0 s0))
    rw [if_neg c2] at q
    rw [Bool.eq_false_iff.mpr c2]
    refine iteF ?_
    have htl := tup_tl a1.1 ht0
    refine seq_if (tellsT_b (tells_lies TW rfl wat0 ok rfl htl)) ?_
    by_cases c3 : (!z.unseen.contains (tl x y)) = true
    · rw [if_pos c3] at q
      rw [c3]
      exact iteT (neg_int (q H0 s0))
    rw [if_neg c3] at q
    rw [Bool.eq_false_iff.mpr c3]
    refine iteF ?_
    have mem : tl x y ∈ z.unseen := List.contains_iff_mem.mp (by simpa using c3)
    have es : V.int side = nV side.toNat := by
      unfold nV
      rw [Int.toNat_of_nonneg a1.2.1]
    have fit : TellsS (tMeth CR "fits" (spFits CR) [] E0 (tSeen K) (tCons (tVar 1) (tCons (tVar 2) tNil))) (L2.start ["self", "tile", "side"] [V.ref wa, V.ref t, V.int side]) H0 (.bl (fitsSide z (tl x y) side.toNat)) := fun Q' q' => by
      obtain ⟨kn, lk, sh, hkn, hlk, hsh, ra⟩ := id wat0.2.1
      exact tells_seen TW rfl wat0 _ ⟨R.a, R.dx, _, rfl, ra.ins, rF_no_fits, _, rfl, _, rfl, R, z, tl x y, _, side.toNat, by rw [← es]; rfl, by omega, wat0.2.1, htl, q'⟩
    refine seq_ifS (tellsTS_not (tellsTS_b fit)) fun H1 s1 => ?_
    have s01 := s0.trans s1
    by_cases c4 : (!fitsSide z (tl x y) side.toNat) = true
    · rw [if_pos c4] at q
      rw [c4]
      exact iteT (neg_int (q H1 s01))
    rw [if_neg c4] at q
    rw [Bool.eq_false_iff.mpr c4]
    refine iteF ?_
    have wat1 := wat.same s01
    obtain ⟨tp, etp, htp⟩ := id htl
    obtain ⟨⟨wdx, hw⟩, ⟨kn, lk, sh, hkn, hlk, hsh, ra⟩, _⟩ := id wat1
    refine ⟨_, rfl, wa, CW, wdx, _, _, rfl, hw, TW.cl, TW.seen, wF_seen, R.a, R.dx, _, rfl, ra.ins, rF_no_deals_by_place, _, rfl, R, z, tl x y, _, rfl, ok, mem, wat1.2.1, ⟨tp, etp, s1 _ _ htp⟩, fun H2 p s2 hp0 hp => ?_⟩
    have turn : (rawOf z kn lk sh).turn = ((z.who : Nat) : Int) := by
      show (if z.over = true then (-1 : Int) else (z.who : Int)) = _
      rw [if_neg c2]
    have at_ : atI (nsV ((List.range (z.players + 1)).map fun j => z.dealsWith (tl x y) j)) (rawOf z kn lk sh).turn = some (nV (z.dealsWith (tl x y) z.who)) := by
      rw [turn]
      exact ran_at (fun j => z.dealsWith (tl x y) j) (i := z.who) (n := z.players + 1) (by
        have := ok.who
        unfold State.players
        omega)
    have ra2 := ra.same s2
    refine ⟨_, rfl, wa, CW, wdx, _, _, rfl, s2 _ _ hw, TW.cl, TW.seen, wF_seen, R.a, CR, R.dx, _, _, rfl, ra2.ins, T.cl, T.turn, rF_turn, p, _, _, _, rfl, rfl, SqL.of hp, at_, rfl, _, rfl, ?_⟩
    refine ite2 (fun c => ?_) (fun c => ?_)
    · have c5 : z.dealsWith (tl x y) z.who = 0 := by
        have := of_decide_eq_true c
        unfold nV at this
        injection this with this
        omega
      rw [if_pos c5] at q
      exact neg_int (q H2 (s01.trans s2))
    · have c5 : ¬ z.dealsWith (tl x y) z.who = 0 := fun e => c (decide_eq_true (by rw [e]; rfl))
      rw [if_neg c5] at q
      exact q H2 (s01.trans s2)
theorem ok_w_play (F : Fun K "play" "Watcher.play" s_w_play f fd) (TW : TxtW K CW) (T : TxtR K mg CR) (C : HasF P w K mg base "tile_of" 1 ["one", "other"] spTileOf) (M1 : HasM P w K mg base CW "play_refusal" 5 ["self", "tile", "side"] (spPlayRef CW CR))
    (M2 : HasM P w K mg base CR "lay" 2 ["self", "tile", "side"] (spLay CR)) (M3 : HasM P w K mg base CR "stands" 2 ["self"] (spStands CR)) : FnOk P w K mg base CX0 6 f fd ["self", "one", "other", "side"] (spPlay CW CR) := by
  obtain ⟨f0, fd0, m0, kp0, G0, b0⟩ := C
  obtain ⟨f1, fd1, m1, G1, b1⟩ := M1
  obtain ⟨f2, fd2, m2, G2, b2⟩ := M2
  obtain ⟨f3, fd3, m3, G3, b3⟩ := M3
  refine F.ok sc_w_play (fun vs H Q E h => ?_) (fun cdv A outer s H vs Q E hr h => ?_)
  · obtain ⟨wa, R, s, x, y, side, rfl, _⟩ := h
    rfl
  · obtain ⟨wa, R, z, x, y, side, rfl, wat, q⟩ := h
    have hr1 : Room 1 _ := hr.mono (by decide)
    have hr2 : Room 2 _ := hr.mono (by decide)
    have hr5 : Room 5 _ := hr.mono (by decide)
    have nd := sc_w_play.nd
    refine ⟨_, pss_cons (ps_set (i := 4) nd rfl (Or.inl rfl) (pe_call G0 hr1 rfl m0 kp0 b0 .nil pass0 (pa_cons (pv 1) (pa_cons (pv 2) pa_nil))))
      (pss_cons (ps_set (i := 5) nd rfl (Or.inl rfl) (pe_meth (pv 0) TW.cl m1 G1 hr5 b1 .nil pass0 (pa_cons (pv 4) (pa_cons (pv 3) pa_nil))))
      (pss_cons (ps_if (pt_cmpR op_lt (pv 5) pe_int (nomark _)) (pss_one (ps_ret (pe_lst (pa_cons (pv 5) pa_nil)))) pss_nil)
      (pss_cons (ps_set (i := 6) nd rfl (Or.inl rfl) (pe_fld (pe_fld (pv 0) rfl) rfl))
      (pss_cons (ps_expr (pe_meth (pe_fld (pv 0) rfl) T.cl m2 G2 hr2 b2 .nil pass0 (pa_cons (pv 4) (pa_cons (pv 3) pa_nil))))
      (pss_one (ps_ret (pe_op op_cat (pe_lst (pa_cons (pe_ix ix_list (pe_fld (pe_fld (pv 0) rfl) rfl) (pv 6) (fun _ _ => rfl)) pa_nil)) (pe_meth0 (pe_fld (pv 0) rfl) T.cl m3 G3 hr2 b3 .nil pass0)))))))), ?_⟩
    refine ⟨_, rfl, _, rfl, x, y, rfl, fun H1 t s1 ht => ?_⟩
    obtain ⟨⟨wdx, hw⟩, rat, val⟩ := id (wat.same s1)
    refine ⟨_, rfl, wa, wdx, _, rfl, hw, wF_no_play_refusal, _, rfl, _, rfl, wa, R, z, t, x, y, side, rfl, wat.same s1, ht, fun H2 s2 => ?_⟩
    have s12 := s1.trans s2
    have spec := spec_play val x y side
    refine ⟨_, rfl, _, _, rfl, rfl, _, rfl, ?_⟩
    refine ite2 (fun c => ?_) (fun c => ?_)
    · have c' : playRef z x y side < 0 := of_decide_eq_true c
      rw [if_pos c'] at spec
      exact ⟨_, rfl, by show 1 ≤ sizeLine; decide, fun pa hpa => q.refused wat s12 spec hpa⟩
    · have c' : ¬ playRef z x y side < 0 := fun e => c (decide_eq_true e)
      rw [if_neg c'] at spec
      obtain ⟨g1, g2, g3, g4, g5⟩ := playRef_pos c'
      have ok := val.ok_of_over g3
      have okp := valid_play val c'
      have wat2 := wat.same s12
      obtain ⟨⟨wdx2, hw2⟩, ⟨kn, lk, sh, hkn, hlk, hsh, ra⟩, _⟩ := id wat2
      have htl : TupAt H2 (tl x y) (.ref t) := tup_tl g1 (s2 _ _ ht)
      have es : V.int side = nV side.toNat := by
        unfold nV
        rw [Int.toNat_of_nonneg g2.1]
      have turn : (rawOf z kn lk sh).turn = ((z.who : Nat) : Int) := by
        show (if z.over = true then (-1 : Int) else (z.who : Int)) = _
        rw [g3, if_neg Bool.false_ne_true]
      refine ⟨_, rfl, wa, CW, wdx2, _, _, rfl, hw2, TW.cl, TW.seen, wF_seen, R.a, CR, R.dx, _, _, rfl, ra.ins, T.cl, T.turn, rF_turn, ?_⟩
      refine ⟨_, rfl, wa, CW, wdx2, _, _, rfl, hw2, TW.cl, TW.seen, wF_seen, R.a, R.dx, _, rfl, ra.ins, rF_no_lay, _, rfl, _, rfl, R, z, tl x y, _, side.toNat, by rw [← es]; rfl, by omega, ok, g3, wat2.2.1, htl, g4, g5, fun H3 sb3 rat3 => ?_⟩
      have hw3 : H3 wa = some (.ins CW wdx2 (wF (.ref R.a))) := sb3 _ _ hw2 wat2.out
      have wat3 : WatAt CW CR H3 wa R (playedBy z (tl x y) side.toNat) := ⟨⟨wdx2, hw3⟩, rat3, .inr okp⟩
      obtain ⟨kn3, lk3, sh3, _, _, _, ra3⟩ := id rat3
      have len3 : (playedBy z (tl x y) side.toNat).left.length = z.left.length := (played_by tl_le g5).len
      have at_ : atI (nsV (playedBy z (tl x y) side.toNat).caps) (rawOf z kn lk sh).turn = some (nV ((playedBy z (tl x y) side.toNat).left.getD z.who 0)) := by
        rw [turn, atI_nV (by rw [caps_len, len3]; have := ok.who; omega), getD_caps (by rw [len3]; exact ok.who)]
      refine ⟨_, rfl, wa, CW, wdx2, _, _, rfl, hw3, TW.cl, TW.seen, wF_seen, R.a, CR, R.dx, _, _, rfl, ra3.ins, T.cl, T.room, rF_room, _, rfl, R.rm, _, _, _, rfl, rfl, SqL.of ra3.rm, at_, by show 1 ≤ sizeLine; decide, fun l hl => ?_⟩
      have s4 := same_new (o := .lst [nV ((playedBy z (tl x y) side.toNat).left.getD z.who 0)]) hl
      have wat4 := wat3.same s4
      have ra4 := ra3.same s4
      refine ⟨_, rfl, wa, CW, wdx2, _, _, rfl, s4 _ _ hw3, TW.cl, TW.seen, wF_seen, R.a, R.dx, _, rfl, ra4.ins, rF_no_stands, R, _, rfl, wat4.2.1, by rw [len3]; exact ok.few.2, fun H5 l5 s5 hl50 hl5 => ?_⟩
      have hl' := s5 _ _ (upd_same (H := H3) (a := l) (o := .lst [nV ((playedBy z (tl x y) side.toNat).left.getD z.who 0)]))
      refine ⟨l, l5, _, _, rfl, rfl, hl', hl5, ?_, fun pa hpa => ?_⟩
      · have := stands_cat (z := playedBy z (tl x y) side.toNat) (by rw [len3]; exact ok.few.2)
        exact Nat.le_trans (by simp only [List.length_cons, List.length_nil]; omega : _ ≤ 100) (by decide)
      · have s6 := (s4.trans s5).trans (same_new (o := .lst ([nV ((playedBy z (tl x y) side.toNat).left.getD z.who 0)] ++ toldV (playedBy z (tl x y) side.toNat))) hpa)
        refine q _ pa R ((frame_but ((but_same s12 _).trans sb3)).then_same s6) ?_ ?_ ?_
        · rw [spec]
          exact wat3.same s6
        · exact ra3.free ((but_same s12 _).trans sb3) (same_free (s4.trans s5) hpa)
        · rw [upd_same, spec]
          rfl
theorem ok_pass_refusal (F : Fun K "pass_refusal" "Watcher.pass_refusal" s_w_pass_refusal f fd) (TW : TxtW K CW) (T : TxtR K mg CR) (M3 : HasM P w K mg base CR "is_over" 1 ["self"] (spIsOver CR)) (M5 : HasM P w K mg base CR "deals_after_pass" 4 ["self"] (spDealsPass CR)) :
    FnOk P w K mg base CX0 5 f fd ["self"] (spPassRef CW CR) := by
  obtain ⟨f3, fd3, m3, G3, b3⟩ := M3
  obtain ⟨f5, fd5, m5, G5, b5⟩ := M5
  refine F.ok sc_w_pass_refusal (fun vs H Q E h => ?_) (fun cdv A outer s H vs Q E hr h => ?_)
  · obtain ⟨wa, R, s, rfl, _⟩ := h
    rfl
  · obtain ⟨wa, R, z, rfl, wat, q⟩ := h
    have hr1 : Room 1 _ := hr.mono (by decide)
    have hr4 : Room 4 _ := hr.mono (by decide)
    refine ⟨_, pss_cons (ps_if (pt_val (pe_meth0 (pe_fld (pv 0) rfl) T.cl m3 G3 hr1 b3 .nil pass0)) (pss_one (ps_ret (pe_un un_neg pe_int))) pss_nil)
      (pss_cons (ps_if (pt_cmpR op_eq (pe_callB call_len_seq (by rfl) T.len PySem.boot_len (pa_cons (pe_fld (pe_fld (pv 0) rfl) rfl) pa_nil)) pe_int (nomark _)) (pss_one (ps_ret (pe_un un_neg pe_int))) pss_nil)
      (pss_cons (ps_if (pt_cmpR op_eq (pe_meth0 (pe_fld (pv 0) rfl) T.cl m5 G5 hr4 b5 .nil pass0) pe_int (nomark _)) (pss_one (ps_ret (pe_un un_neg pe_int))) pss_nil)
      (pss_one (ps_ret pe_int)))), ?_⟩
    unfold passRef at q
    refine seq_if (tellsT_b (tells_over TW rfl wat)) ?_
    by_cases c2 : z.over = true
    · rw [if_pos c2] at q
      rw [c2]
      exact iteT (neg_int (q H (Same.refl H)))
    rw [if_neg c2] at q
    have ho := Bool.eq_false_iff.mpr c2
    rw [ho]
    refine iteF ?_
    have ok := wat.2.2.ok_of_over ho
    obtain ⟨⟨wdx, hw⟩, ⟨kn, lk, sh, hkn, hlk, hsh, ra⟩, _⟩ := id wat
    obtain ⟨lv, hln, hplv⟩ := ra.ln
    have hlen : lv.length = z.line.length := Paired.length hplv
    refine ⟨_, rfl, wa, CW, wdx, _, _, rfl, hw, TW.cl, TW.seen, wF_seen, R.a, CR, R.dx, _, _, rfl, ra.ins, T.cl, T.line, rF_line, R.ln, lv, rfl, .inl (SqL.of hln), rfl, _, rfl, ?_⟩
    refine ite2 (fun c => ?_) (fun c => ?_)
    · have e0 : lv.length = 0 := by
        have := of_decide_eq_true c
        injection this with this
        omega
      have el : z.line = [] := List.eq_nil_of_length_eq_zero (by omega)
      rw [ends_none.mpr el] at q
      exact neg_int (q H (Same.refl H))
    · have ne : z.line ≠ [] := fun e => c (decide_eq_true (by rw [hlen, e]; rfl))
      cases he : z.ends with
      | none => exact absurd (ends_none.mp he) ne
      | some e =>
        rw [he] at q
        refine ⟨_, rfl, wa, CW, wdx, _, _, rfl, hw, TW.cl, TW.seen, wF_seen, R.a, R.dx, _, rfl, ra.ins, rF_no_deals_after_pass, R, z, e, rfl, ok, ho, wat.2.1, he, fun H1 s1 => ?_⟩
        refine ⟨rfl, _, rfl, ?_⟩
        have q' : Q (.int (if Kg86.ways (passed z e) z.caps = 0 then (-7 : Int) else 0)) H1 := q H1 s1
        refine ite2 (fun c => ?_) (fun c => ?_)
        · have c5 : Kg86.ways (passed z e) z.caps = 0 := by
            have := of_decide_eq_true c
            unfold nV at this
            injection this with this
            omega
          rw [if_pos c5] at q'
          exact neg_int q'
        · have c5 : ¬ Kg86.ways (passed z e) z.caps = 0 := fun e2 => c (decide_eq_true (by rw [e2]; rfl))
          rw [if_neg c5] at q'
          exact q'
theorem ok_pass_by (F : Fun K "pass_by" "Watcher.pass_by" s_w_pass_by f fd) (TW : TxtW K CW) (T : TxtR K mg CR) (M1 : HasM P w K mg base CW "pass_refusal" 5 ["self"] (spPassRef CW CR))
    (M2 : HasM P w K mg base CR "note_pass" 2 ["self"] (spNotePass CR)) (M3 : HasM P w K mg base CR "stands" 2 ["self"] (spStands CR)) : FnOk P w K mg base CX0 6 f fd ["self"] (spPassBy CW CR) := by
  obtain ⟨f1, fd1, m1, G1, b1⟩ := M1
  obtain ⟨f2, fd2, m2, G2, b2⟩ := M2
  obtain ⟨f3, fd3, m3, G3, b3⟩ := M3
  refine F.ok sc_w_pass_by (fun vs H Q E h => ?_) (fun cdv A outer s H vs Q E hr h => ?_)
  · obtain ⟨wa, R, s, rfl, _⟩ := h
    rfl
  · obtain ⟨wa, R, z, rfl, wat, q⟩ := h
    have hr2 : Room 2 _ := hr.mono (by decide)
    have nd := sc_w_pass_by.nd
    refine ⟨_, pss_cons (ps_set (i := 1) nd rfl (Or.inl rfl) (pe_meth0 (pv 0) TW.cl m1 G1 hr b1 .nil pass0))
      (pss_cons (ps_if (pt_cmpR op_lt (pv 1) pe_int (nomark _)) (pss_one (ps_ret (pe_lst (pa_cons (pv 1) pa_nil)))) pss_nil)
      (pss_cons (ps_expr (pe_meth0 (pe_fld (pv 0) rfl) T.cl m2 G2 hr2 b2 .nil pass0))
      (pss_one (ps_ret (pe_op op_cat (pe_lst (pa_cons (pe_fld (pe_fld (pv 0) rfl) rfl) pa_nil)) (pe_meth0 (pe_fld (pv 0) rfl) T.cl m3 G3 hr2 b3 .nil pass0)))))), ?_⟩
    obtain ⟨⟨wdx, hw⟩, rat, val⟩ := id wat
    refine ⟨_, rfl, wa, wdx, _, rfl, hw, wF_no_pass_refusal, wa, R, z, rfl, wat, fun H1 s1 => ?_⟩
    have spec := spec_pass val
    refine ⟨_, rfl, _, _, rfl, rfl, _, rfl, ?_⟩
    refine ite2 (fun c => ?_) (fun c => ?_)
    · have c' : passRef z < 0 := of_decide_eq_true c
      have spec' : Kg86.spec z .pass = (z, Kg86.num (passRef z)) := by
        rw [spec]
        cases z.ends with
        | none => rfl
        | some e => exact if_pos c'
      exact ⟨_, rfl, by show 1 ≤ sizeLine; decide, fun pa hpa => q.refused wat s1 spec' hpa⟩
    · have c' : ¬ passRef z < 0 := fun e => c (decide_eq_true e)
      cases he : z.ends with
      | none =>
        exfalso
        apply c'
        unfold passRef
        rw [he]
        by_cases o : z.over = true
        · rw [if_pos o]
          decide
        · rw [if_neg o]
          show (-6 : Int) < 0
          decide
      | some e =>
        rw [he] at spec
        have spec' : Kg86.spec z .pass = (passedBy z e, ⟨(z.passes + 1 : Nat), Kg86.told (passedBy z e)⟩) := by
          rw [spec]
          exact if_neg c'
        obtain ⟨ho, okp⟩ := valid_pass val he c'
        have ok := val.ok_of_over ho
        have wat1 := wat.same s1
        obtain ⟨⟨wdx1, hw1⟩, ⟨kn, lk, sh, hkn, hlk, hsh, ra⟩, _⟩ := id wat1
        refine ⟨_, rfl, wa, CW, wdx1, _, _, rfl, hw1, TW.cl, TW.seen, wF_seen, R.a, R.dx, _, rfl, ra.ins, rF_no_note_pass, R, z, e, rfl, ok, ho, wat1.2.1, he, fun H3 sb3 rat3 => ?_⟩
        have hw3 : H3 wa = some (.ins CW wdx1 (wF (.ref R.a))) := sb3 _ _ hw1 wat1.out
        have wat3 : WatAt CW CR H3 wa R (passedBy z e) := ⟨⟨wdx1, hw3⟩, rat3, .inr okp⟩
        obtain ⟨kn3, lk3, sh3, _, _, _, ra3⟩ := id rat3
        have len3 : (passedBy z e).left.length = z.left.length := rfl
        refine ⟨_, rfl, wa, CW, wdx1, _, _, rfl, hw3, TW.cl, TW.seen, wF_seen, R.a, CR, R.dx, _, _, rfl, ra3.ins, T.cl, T.passes, rF_passes, by show 1 ≤ sizeLine; decide, fun l hl => ?_⟩
        have s4 := same_new (o := .lst [V.int (rawOf (passedBy z e) kn3 lk3 sh3).passes]) hl
        have wat4 := wat3.same s4
        have ra4 := ra3.same s4
        refine ⟨_, rfl, wa, CW, wdx1, _, _, rfl, s4 _ _ hw3, TW.cl, TW.seen, wF_seen, R.a, R.dx, _, rfl, ra4.ins, rF_no_stands, R, _, rfl, wat4.2.1, by rw [len3]; exact ok.few.2, fun H5 l5 s5 hl50 hl5 => ?_⟩
        have hl' := s5 _ _ (upd_same (H := H3) (a := l) (o := .lst [V.int (rawOf (passedBy z e) kn3 lk3 sh3).passes]))
        refine ⟨l, l5, _, _, rfl, rfl, hl', hl5, ?_, fun pa hpa => ?_⟩
        · have := stands_cat (z := passedBy z e) (by rw [len3]; exact ok.few.2)
          exact Nat.le_trans (by simp only [List.length_cons, List.length_nil]; omega : _ ≤ 100) (by decide)
        · have s6 := (s4.trans s5).trans (same_new (o := .lst ([V.int (rawOf (passedBy z e) kn3 lk3 sh3).passes] ++ toldV (passedBy z e))) hpa)
          refine q _ pa R ((frame_but ((but_same s1 _).trans sb3)).then_same s6) ?_ ?_ ?_
          · rw [spec']
            exact wat3.same s6
          · exact ra3.free ((but_same s1 _).trans sb3) (same_free (s4.trans s5) hpa)
          · rw [upd_same, spec']
            rfl
end
end Dm
/-! ## DmHand -/
/-! A hand shown. -/
namespace Dm
open PySem PySem.Spec PyProof.Rows L2
open Kg86 (Tile full State)
def spHandRef (CW CR : Addr) : Sp := fun vs H Q _ => ∃ (wa : Addr) (R : RA) (s : State) (k : Nat) (h : Addr) (hs : List V) (ps : List (Int × Int)), vs = [.ref wa, nV k, .ref h] ∧ WatAt CW CR H wa R s ∧ Ok s ∧ k < s.left.length ∧ H h = some (.lst hs) ∧ HandAt H hs ps ∧ (∀ p ∈ ps, p.1 ≤ p.2) ∧ ps.length ≤ 10 ∧
  ∀ H' : Hp, Same H H' → Q (.int (handRef s k ps)) H'
def spShowRef (CW CR : Addr) (K : PySem.W.Frag) : Sp := fun vs H Q _ => ∃ (wa : Addr) (R : RA) (s : State) (k : Int) (a : Addr) (l : List Int), vs = [.ref wa, .int k, .ref a] ∧ WatAt CW CR H wa R s ∧ SqL K H a (l.map V.int) ∧ l.length ≤ 20 ∧ ∀ H' : Hp, Same H H' → Q (.int (showRef s k l)) H'
def spShow (CW CR : Addr) (K : PySem.W.Frag) : Sp := fun vs H Q _ => ∃ (wa : Addr) (R : RA) (s : State) (k : Int) (a : Addr) (l : List Int), vs = [.ref wa, .int k, .ref a] ∧ WatAt CW CR H wa R s ∧ SqL K H a (l.map V.int) ∧ l.length ≤ 20 ∧ WDone CW CR Q H wa R s (.show_ k l)
structure TxtH (mg : Str → Option Value) : Prop where
  all : mg "all" = none
  any : mg "any" = none
  set : mg "set" = none
/-- tuples of numbers that are tiles -/
theorem hand_tiles {H : Hp} {s : State} : ∀ {vs : List V} {ps : List (Int × Int)}, HandAt H vs ps → (∀ p ∈ ps, p.1 ≤ p.2) → ps.all (hasT s) = true → TilesAt H vs (ps.map toTile)
  | _, _, .nil, _, _ => .nil
  | _, _, .cons (b := p) h t, hle, ha => by
    rw [List.all_cons, Bool.and_eq_true] at ha
    obtain ⟨q, e, hq⟩ := h
    have h0 := (Bool.and_eq_true _ _ ▸ ha.1 : (decide (0 ≤ p.1) = true ∧ _)).1
    have h0' : 0 ≤ p.1 := of_decide_eq_true h0
    have h1 := hle p (List.mem_cons.mpr (.inl rfl))
    refine .cons ⟨q, e, ?_⟩ (hand_tiles t (fun x hx => hle x (List.mem_cons.mpr (.inr hx))) ha.2)
    rw [hq]
    show some (HO.tup [V.int p.1, V.int p.2]) = some (HO.tup [V.int ((p.1.toNat : Nat) : Int), V.int ((p.2.toNat : Nat) : Int)])
    rw [Int.toNat_of_nonneg h0', Int.toNat_of_nonneg (by omega)]
theorem hand_keys {H : Hp} : ∀ {vs : List V} {ps : List (Int × Int)}, HandAt H vs ps → ∃ ks : List (Addr × List Int), vs = ks.map (fun p => V.ref p.1) ∧ ks.map (·.2) = ps.map (fun p => [p.1, p.2]) ∧ ∀ p ∈ ks, H p.1 = some (.tup (p.2.map V.int))
  | _, _, .nil => ⟨[], rfl, rfl, fun p hp => absurd hp (by simp)⟩
  | _, _, .cons (b := p) h t => by
    obtain ⟨q, e, hq⟩ := h
    obtain ⟨ks, e1, e2, e3⟩ := hand_keys t
    refine ⟨(q, [p.1, p.2]) :: ks, by rw [e, e1]; rfl, by rw [List.map_cons, e2]; rfl, fun x hx => ?_⟩
    rcases List.mem_cons.mp hx with w | w
    · rw [w]
      exact hq
    · exact e3 x w
theorem nodup_keys : ∀ {ps : List (Int × Int)} {s : State}, (∀ p ∈ ps, p.1 ≤ p.2) → ps.all (hasT s) = true → ((ps.map fun p => [p.1, p.2]).Nodup ↔ (ps.map toTile).Nodup)
  | [], _, _, _ => by simp
  | p :: r, s, hle, ha => by
    rw [List.all_cons, Bool.and_eq_true] at ha
    have ih := nodup_keys (ps := r) (s := s) (fun x hx => hle x (List.mem_cons.mpr (.inr hx))) ha.2
    rw [List.map_cons, List.map_cons, List.nodup_cons, List.nodup_cons, ih]
    have pos : ∀ x ∈ p :: r, 0 ≤ x.1 ∧ 0 ≤ x.2 := fun x hx => by
      have h1 := hle x hx
      have h2 : hasT s x = true := by
        rcases List.mem_cons.mp hx with w | w
        · rw [w]
          exact ha.1
        · exact List.all_eq_true.mp ha.2 x w
      unfold hasT at h2
      rw [Bool.and_eq_true, decide_eq_true_eq] at h2
      omega
    have e : [p.1, p.2] ∈ r.map (fun p => [p.1, p.2]) ↔ toTile p ∈ r.map toTile := by
      constructor
      · intro h
        obtain ⟨x, hx, q⟩ := List.mem_map.mp h
        injection q with q1 q2
        injection q2 with q2 _
        exact List.mem_map.mpr ⟨x, hx, by unfold toTile; rw [q1, q2]⟩
      · intro h
        obtain ⟨x, hx, q⟩ := List.mem_map.mp h
        unfold toTile at q
        injection q with q1 q2
        have a := pos x (List.mem_cons.mpr (.inr hx))
        have b := pos p (List.mem_cons.mpr (.inl rfl))
        refine List.mem_map.mpr ⟨x, hx, ?_⟩
        have e1 : x.1 = p.1 := by omega
        have e2 : x.2 = p.2 := by omega
        rw [e1, e2]
    rw [e]
section
variable {P : Program} {w : World} {K : PySem.W.Frag} {mg : Str → Option Value} {base : Heap} {CR CW : Addr} {f : Addr} {fd : FuncData}
theorem ok_hand_refusal (F : Fun K "hand_refusal" "Watcher.hand_refusal" s_w_hand_refusal f fd) (TW : TxtW K CW) (T : TxtR K mg CR) (TH : TxtH mg) (M1 : HasM P w K mg base CR "has_tile" 1 ["self", "tile"] (spHasTile CR))
    (M4 : HasM P w K mg base CR "lies" 1 ["self", "tile"] (spLies CR)) (M5 : HasM P w K mg base CR "deals_with_hand" 4 ["self", "player", "hand"] (spDealsHand CR)) :
    FnOk P w K mg base CX0 5 f fd ["self", "player", "hand"] (spHandRef CW CR) := by
  obtain ⟨f1, fd1, m1, G1, b1⟩ := M1
  obtain ⟨f4, fd4, m4, G4, b4⟩ := M4
  obtain ⟨f5, fd5, m5, G5, b5⟩ := M5
  refine F.ok sc_w_hand_refusal (fun vs H Q E h => ?_) (fun cdv A outer s H vs Q E hr h => ?_)
  · obtain ⟨wa, R, s, k, h, hs, ps, rfl, _⟩ := h
    rfl
  · obtain ⟨wa, R, z, k, h, hs, ps, rfl, wat, ok, hk, hh, hat, hle, hlen, q⟩ := h
    have hr1 : Room 1 _ := hr.mono (by decide)
    have hr4 : Room 4 _ := hr.mono (by decide)
    have hu := hu_of hr
    have hu64 : (A.deeper (envOfC "Watcher.hand_refusal" (defScope s_w_hand_refusal) s.heap.objs.size f cdv)).units + 64 < cLine := by have := hr.un; omega
    have nd := sc_w_hand_refusal.nd
    refine ⟨_, pss_cons (ps_if (pt_not (pt_val (pe_callB (cr_all rfl) (by rfl) TH.all (by decide +kernel) (pa_cons (pe_lc (own := [("tile", 3)]) (g := gName 3) (te := tMeth CR "has_tile" (spHasTile CR) [] E0 (tFld K (tVar 0) "seen") (tCons (tVar 3) tNil)) rfl nd (pi_list (pv 2)) (blkOk_by (own := [("tile", 3)]) (N := ["self", "player", "hand", "tile"]) (sc := defScope s_w_hand_refusal) (by decide +kernel))
          (fun _ _ _ _ _ => pg_name (i := 3) nd rfl (Or.inl rfl)) (fun _ _ _ _ _ => pts_nil)
          (fun _ _ _ _ _ => pe_meth (pe_fld (pv 0) rfl) T.cl m1 G1 hr1 b1 .nil pass0 (pa_cons (pv 3) pa_nil))) pa_nil)))) (pss_one (ps_ret (pe_un un_neg pe_int))) pss_nil)
      (pss_cons (ps_if (pt_cmp (pc_din hu (pv 1) (pe_fld (pe_fld (pv 0) rfl) rfl))) (pss_one (ps_ret (pe_un un_neg pe_int))) pss_nil)
      (pss_cons (ps_if (PW.pt (pw_or (pt_cmpR op_ne (pe_callB call_len_seq (by rfl) T.len PySem.boot_len (pa_cons (pv 2) pa_nil)) (pe_ix ix_list (pe_fld (pe_fld (pv 0) rfl) rfl) (pv 1) (fun _ _ => rfl)) (nomark _))
          (pw_or1 (pt_cmpR op_ne (pe_callB call_lenST (by rfl) T.len PySem.boot_len (pa_cons (pe_callTy (cr_setOfT rfl hu64) (by rfl) TH.set (by decide +kernel) (pa_cons (pv 2) pa_nil)) pa_nil)) (pe_callB call_len_seq (by rfl) T.len PySem.boot_len (pa_cons (pv 2) pa_nil)) (nomark _))))) (pss_one (ps_ret (pe_un un_neg pe_int))) pss_nil)
      (pss_cons (ps_if (pt_val (pe_callB (cr_any rfl) (by rfl) TH.any (by decide +kernel) (pa_cons (pe_lc (own := [("tile", 3)]) (g := gName 3) (te := tMeth CR "lies" (spLies CR) [] E0 (tFld K (tVar 0) "seen") (tCons (tVar 3) tNil)) rfl nd (pi_list (pv 2)) (blkOk_by (own := [("tile", 3)]) (N := ["self", "player", "hand", "tile"]) (sc := defScope s_w_hand_refusal) (by decide +kernel))
          (fun _ _ _ _ _ => pg_name (i := 3) nd rfl (Or.inl rfl)) (fun _ _ _ _ _ => pts_nil)
          (fun _ _ _ _ _ => pe_meth (pe_fld (pv 0) rfl) T.cl m4 G4 hr1 b4 .nil pass0 (pa_cons (pv 3) pa_nil))) pa_nil))) (pss_one (ps_ret (pe_un un_neg pe_int))) pss_nil)
      (pss_cons (ps_if (pt_cmpR op_eq (pe_meth (pe_fld (pv 0) rfl) T.cl m5 G5 hr4 b5 .nil pass0 (pa_cons (pv 1) (pa_cons (pv 2) pa_nil))) pe_int (nomark _)) (pss_one (ps_ret (pe_un un_neg pe_int))) pss_nil)
      (pss_one (ps_ret pe_int)))))), ?_⟩
    unfold handRef at q
    have hhl : hs.length = ps.length := Paired.length hat
    have le100 : (100 : Nat) ≤ sizeLine := by decide
    -- all([..])
    refine ⟨_, rfl, h, rfl, ⟨hs, SqL.of hh⟩, fun D hD => ?_⟩
    refine lc_list (K := K) (a := h) (xs := hs) (fun i H' => Same H H' ∧ H' D = some (.lst (((ps.take i).map (hasT z)).map V.bl)))
      ⟨same_new hD, upd_same⟩ (fun i H' _ hp => SqL.of (hp.1 _ _ hh)) ?_ ?_
    · rintro i x H1 hx ⟨sm, hl⟩
      obtain ⟨p, hp, tq, rfl, htq⟩ := paired_get hat hx
      have wat1 := wat.same sm
      obtain ⟨⟨wdx, hw⟩, ⟨kn, lk, sh, hkn, hlk, hsh, ra⟩, _⟩ := id wat1
      refine ⟨rfl, ?_⟩
      refine ⟨_, rfl, wa, CW, wdx, _, _, rfl, hw, TW.cl, TW.seen, wF_seen, R.a, R.dx, _, rfl, ra.ins, rF_no_has_tile, _, rfl, R, z, tq, p.1, p.2, rfl, wat1.2.1, sm _ _ htq, ?_⟩
      refine ⟨_, hl, ?_, fun b o e => ?_, ?_⟩
      · rw [List.length_map, List.length_map, List.length_take]
        exact Nat.lt_of_lt_of_le (by omega : _ < 100) le100
      · rw [upd_ne (ne_of_none e hD)]
        exact sm _ _ e
      · rw [upd_same, take_snoc hp, List.map_append, List.map_append]
        rfl
    rintro H1 ⟨s1, hl1⟩
    rw [hhl, List.take_length] at hl1
    refine ⟨D, ps.map (hasT z), rfl, SqL.of hl1, _, rfl, ?_⟩
    have eall : (ps.map (hasT z)).all id = ps.all (hasT z) := by
      rw [List.all_map]
      rfl
    rw [eall]
    show if (!ps.all (hasT z)) = true then _ else _
    by_cases c1 : (!ps.all (hasT z)) = true
    · rw [if_pos c1] at q
      rw [c1]
      exact iteT (neg_int (q H1 s1))
    rw [if_neg c1] at q
    rw [Bool.eq_false_iff.mpr c1]
    refine iteF ?_
    have a1 : ps.all (hasT z) = true := by simpa using c1
    have wat1 := wat.same s1
    obtain ⟨⟨wdx, hw⟩, ⟨kn, lk, sh, hkn, hlk, hsh, ra⟩, _⟩ := id wat1
    -- player in shown
    refine ⟨_, rfl, _, rfl, wa, CW, wdx, _, _, rfl, hw, TW.cl, TW.seen, wF_seen, R.a, CR, R.dx, _, _, rfl, ra.ins, T.cl, T.shown, rF_shown, R.sh, _, rfl, DGet.k (k := Sum.inl ((k : Nat) : Int)) ra.sh, _, rfl, ?_⟩
    have esh : (valV sh (Sum.inl ((k : Nat) : Int))).isSome = (z.shown.lookup k).isSome := by
      rw [hsh.val, Option.isSome_map]
    show if (valV sh (Sum.inl ((k : Nat) : Int))).isSome = true then _ else _
    rw [esh]
    by_cases c2 : (z.shown.lookup k).isSome = true
    · rw [if_pos c2] at q
      rw [c2]
      exact iteT (neg_int (q H1 s1))
    rw [if_neg c2] at q
    rw [Bool.eq_false_iff.mpr c2]
    refine iteF ?_
    -- how many, and each once
    have hh1 := s1 _ _ hh
    have hat1 := hat.same s1
    have at_ : atI (nsV z.caps) ((k : Nat) : Int) = some (nV (z.left.getD k 0)) := by
      rw [atI_nV (by rw [caps_len]; omega), getD_caps hk]
    have tst1 : (!decide (V.int ((hs.length : Nat) : Int) = nV (z.left.getD k 0))) = !decide ((ps.map toTile).length = z.left.getD k 0) := by
      rw [List.length_map, ← hhl]
      by_cases w : hs.length = z.left.getD k 0
      · rw [decide_eq_true w]
        rw [decide_eq_true (by rw [w]; rfl)]
      · rw [decide_eq_false w, decide_eq_false]
        intro y
        unfold nV at y
        injection y with y
        exact w (by omega)
    refine ⟨_, rfl, h, hs, rfl, .inl (SqL.of hh1), _, rfl, wa, CW, wdx, _, _, rfl, hw, TW.cl, TW.seen, wF_seen, R.a, CR, R.dx, _, _, rfl, ra.ins, T.cl, T.room, rF_room, _, rfl, R.rm, nsV z.caps, _, _, rfl, rfl, SqL.of ra.rm, at_, rfl, _, rfl, ?_⟩
    rw [tst1]
    by_cases c3a : (!decide ((ps.map toTile).length = z.left.getD k 0)) = true
    · rw [c3a, if_pos (by rw [Bool.true_or])] at q
      rw [c3a]
      exact iteT (iteT (neg_int (q H1 s1)))
    rw [Bool.eq_false_iff.mpr c3a] at q
    rw [Bool.eq_false_iff.mpr c3a]
    refine iteF ?_
    obtain ⟨ks, e1, e2, e3⟩ := hand_keys hat1
    have kl : ks.length = ps.length := by
      have := congrArg List.length e2
      rw [List.length_map, List.length_map] at this
      exact this
    refine ⟨_, rfl, h, ks, rfl, by rw [← e1]; exact SqL.of hh1, fun p hp => SqT.of (e3 p hp), by omega, fun sa L hsa hL1 hL2 => ?_⟩
    have s2 := s1.trans (same_new (o := SetTO P w sa L) hsa)
    refine ⟨sa, L, rfl, upd_same, fun hLn => ?_⟩
    refine ⟨_, rfl, h, hs, rfl, .inl (SqL.of (s2 _ _ hh)), rfl, _, rfl, ?_⟩
    have key : (L.map (·.2)).length = (ks.map (·.2)).length ↔ (ks.map (·.2)).Nodup := set_len hLn (fun x hx => by
      obtain ⟨p, hp, rfl⟩ := List.mem_map.mp hx
      exact List.mem_map.mpr ⟨p, hL1 p hp, rfl⟩) fun x hx => by
      obtain ⟨p, hp, rfl⟩ := List.mem_map.mp hx
      exact hL2 p hp
    rw [e2, nodup_keys hle a1, List.length_map, List.length_map] at key
    have tst2 : (!decide (V.int ((L.length : Nat) : Int) = V.int ((hs.length : Nat) : Int))) = !decide (ps.map toTile).Nodup := by
      rw [hhl]
      by_cases w : (ps.map toTile).Nodup
      · rw [decide_eq_true w, decide_eq_true (by rw [key.mpr w])]
      · rw [decide_eq_false w, decide_eq_false]
        intro y
        injection y with y
        exact w (key.mp (by omega))
    rw [tst2]
    rw [Bool.false_or] at q
    by_cases c3b : (!decide (ps.map toTile).Nodup) = true
    · rw [if_pos c3b] at q
      rw [c3b]
      exact iteT (neg_int (q _ s2))
    rw [if_neg c3b] at q
    rw [Bool.eq_false_iff.mpr c3b]
    refine iteF ?_
    show tSeq _ _ _ _ (upd H1 sa (SetTO P w sa L))
    generalize upd H1 sa (SetTO P w sa L) = H2 at s2 ⊢
    -- any([..])
    have hh2 := s2 _ _ hh
    have htl2 : TilesAt H2 hs (ps.map toTile) := (hand_tiles hat hle a1).same s2
    refine ⟨_, rfl, h, rfl, ⟨hs, SqL.of hh2⟩, fun D2 hD2 => ?_⟩
    refine lc_list (K := K) (a := h) (xs := hs) (fun i H' => Same H2 H' ∧ H' D2 = some (.lst ((((ps.map toTile).take i).map fun t => !z.unseen.contains t).map V.bl)))
      ⟨same_new hD2, upd_same⟩ (fun i H' _ hp => SqL.of (hp.1 _ _ hh2)) ?_ ?_
    · rintro i x H3 hx ⟨sm, hl⟩
      obtain ⟨t, ht, htp⟩ := paired_get (htl2.same sm) hx
      have wat3 := wat.same (s2.trans sm)
      obtain ⟨⟨wdx3, hw3⟩, ⟨kn3, lk3, sh3, hkn3, hlk3, hsh3, ra3⟩, _⟩ := id wat3
      refine ⟨rfl, ?_⟩
      refine ⟨_, rfl, wa, CW, wdx3, _, _, rfl, hw3, TW.cl, TW.seen, wF_seen, R.a, R.dx, _, rfl, ra3.ins, rF_no_lies, _, rfl, R, z, t, x, rfl, wat3.2.1, htp, ?_⟩
      rw [ok.hid]
      refine ⟨_, hl, ?_, fun b o e => ?_, ?_⟩
      · rw [List.length_map, List.length_map, List.length_take, List.length_map]
        exact Nat.lt_of_lt_of_le (by omega : _ < 100) le100
      · rw [upd_ne (ne_of_none e hD2)]
        exact sm _ _ e
      · rw [upd_same, take_snoc ht, List.map_append, List.map_append]
        rfl
    rintro H3 ⟨s3, hl3⟩
    have hl3' : H3 D2 = some (.lst (((ps.map toTile).map fun t => !z.unseen.contains t).map V.bl)) := by
      have e : hs.length = (ps.map toTile).length := by rw [List.length_map, hhl]
      rw [e, List.take_length] at hl3
      exact hl3
    refine ⟨D2, (ps.map toTile).map fun t => !z.unseen.contains t, rfl, SqL.of hl3', _, rfl, ?_⟩
    have eany : ((ps.map toTile).map fun t => !z.unseen.contains t).any id = (ps.map toTile).any fun t => !z.unseen.contains t := by
      rw [List.any_map]
      rfl
    rw [eany]
    have s23 := s2.trans s3
    by_cases c4 : ((ps.map toTile).any fun t => !z.unseen.contains t) = true
    · rw [if_pos c4] at q
      rw [c4]
      exact iteT (neg_int (q H3 s23))
    rw [if_neg c4] at q
    rw [Bool.eq_false_iff.mpr c4]
    refine iteF ?_
    -- the deals
    have wat3 := wat.same s23
    obtain ⟨⟨wdx3, hw3⟩, ⟨kn3, lk3, sh3, hkn3, hlk3, hsh3, ra3⟩, _⟩ := id wat3
    refine ⟨_, rfl, wa, CW, wdx3, _, _, rfl, hw3, TW.cl, TW.seen, wF_seen, R.a, R.dx, _, rfl, ra3.ins, rF_no_deals_with_hand, _, rfl, _, rfl, R, z, k, h, hs, ps.map toTile, rfl, ok, wat3.2.1, s23 _ _ hh, htl2.same s3, fun H4 s4 => ?_⟩
    refine ⟨rfl, _, rfl, ?_⟩
    have s234 := s23.trans s4
    refine ite2 (fun c => ?_) (fun c => ?_)
    · have c5 : Kg86.ways (handed z (ps.map toTile) k) z.caps = 0 := by
        have := of_decide_eq_true c
        unfold nV at this
        injection this with this
        omega
      rw [if_pos c5] at q
      exact neg_int (q H4 s234)
    · have c5 : ¬ Kg86.ways (handed z (ps.map toTile) k) z.caps = 0 := fun e => c (decide_eq_true (by rw [e]; rfl))
      rw [if_neg c5] at q
      exact q H4 s234
theorem ok_show_refusal (F : Fun K "show_refusal" "Watcher.show_refusal" s_w_show_refusal f fd) (TW : TxtW K CW) (T : TxtR K mg CR) (M1 : HasM P w K mg base CR "has_player" 1 ["self", "player"] (spHasPlayer CR)) (M3 : HasM P w K mg base CR "is_over" 1 ["self"] (spIsOver CR))
    (C : HasF P w K mg base "tiles_of" 2 ["numbers"] (spTilesOf K)) (M5 : HasM P w K mg base CW "hand_refusal" 5 ["self", "player", "hand"] (spHandRef CW CR)) : FnOk P w K mg base CX0 6 f fd ["self", "player", "numbers"] (spShowRef CW CR K) := by
  obtain ⟨f1, fd1, m1, G1, b1⟩ := M1
  obtain ⟨f3, fd3, m3, G3, b3⟩ := M3
  obtain ⟨f0, fd0, m0, kp0, G0, b0⟩ := C
  obtain ⟨f5, fd5, m5, G5, b5⟩ := M5
  refine F.ok sc_w_show_refusal (fun vs H Q E h => ?_) (fun cdv A outer s H vs Q E hr h => ?_)
  · obtain ⟨wa, R, s, k, a, l, rfl, _⟩ := h
    rfl
  · obtain ⟨wa, R, z, k, a, l, rfl, wat, ha, hl20, q⟩ := h
    have hr1 : Room 1 _ := hr.mono (by decide)
    have hr2 : Room 2 _ := hr.mono (by decide)
    refine ⟨_, pss_cons (ps_if (pt_not (pt_val (pe_meth (pe_fld (pv 0) rfl) T.cl m1 G1 hr1 b1 .nil pass0 (pa_cons (pv 1) pa_nil)))) (pss_one (ps_ret (pe_un un_neg pe_int))) pss_nil)
      (pss_cons (ps_if (pt_not (pt_val (pe_meth0 (pe_fld (pv 0) rfl) T.cl m3 G3 hr1 b3 .nil pass0))) (pss_one (ps_ret (pe_un un_neg pe_int))) pss_nil)
      (pss_cons (ps_if (pt_cmpR op_eq (pe_op op_mod (pe_callB call_len_seq (by rfl) T.len PySem.boot_len (pa_cons (pv 2) pa_nil)) pe_int) pe_int (nomark _)) (pss_one (ps_ret (pe_un un_neg pe_int))) pss_nil)
      (pss_one (ps_ret (pe_meth (pv 0) TW.cl m5 G5 hr b5 .nil pass0 (pa_cons (pv 1) (pa_cons (pe_call G0 hr2 rfl m0 kp0 b0 .nil pass0 (pa_cons (pv 2) pa_nil)) pa_nil))))))), ?_⟩
    unfold showRef at q
    obtain ⟨⟨wdx, hw⟩, ⟨kn, lk, sh, hkn, hlk, hsh, ra⟩, val⟩ := id wat
    refine ⟨_, rfl, wa, CW, wdx, _, _, rfl, hw, TW.cl, TW.seen, wF_seen, R.a, R.dx, _, rfl, ra.ins, rF_no_has_player, _, rfl, R, z, k, rfl, wat.2.1, _, rfl, ?_⟩
    by_cases c1 : (decide (0 ≤ k) && decide (k < (z.left.length : Int))) = false
    · rw [if_pos c1] at q
      rw [c1]
      exact iteT (neg_int (q H (Same.refl H)))
    rw [if_neg c1] at q
    have a1 := eqT c1
    rw [a1]
    refine iteF ?_
    rw [Bool.and_eq_true, decide_eq_true_eq, decide_eq_true_eq] at a1
    refine seq_if (tellsT_not (tellsT_b (tells_over TW rfl wat))) ?_
    by_cases c2 : z.over = false
    · rw [if_pos c2] at q
      rw [c2]
      exact iteT (neg_int (q H (Same.refl H)))
    rw [if_neg c2] at q
    rw [eqT c2]
    refine iteF ?_
    have ok : Ok z := val.ok fun e => by
      rw [e] at a1
      have := a1.2
      simp at this
      omega
    refine ⟨_, rfl, a, _, rfl, .inl ha, _, _, rfl, rfl, by show (0 : Int) < 2; decide, rfl, _, rfl, ?_⟩
    rw [List.length_map]
    have tst : decide (V.int (((l.length : Nat) : Int) % 2) = V.int 1) = decide (l.length % 2 = 1) := by
      by_cases w : l.length % 2 = 1
      · rw [decide_eq_true w]
        refine decide_eq_true ?_
        congr 1
        omega
      · rw [decide_eq_false w]
        refine decide_eq_false fun y => w ?_
        injection y with y
        omega
    show if decide (V.int (((l.length : Nat) : Int) % 2) = V.int 1) = true then _ else _
    rw [tst]
    by_cases c3 : l.length % 2 = 1
    · rw [if_pos c3] at q
      rw [decide_eq_true c3]
      exact iteT (neg_int (q H (Same.refl H)))
    rw [if_neg c3] at q
    rw [decide_eq_false c3]
    refine iteF ?_
    have ek : V.int k = nV k.toNat := by
      unfold nV
      rw [Int.toNat_of_nonneg a1.1]
    refine ⟨_, rfl, wa, wdx, _, rfl, hw, wF_no_hand_refusal, _, rfl, _, rfl, a, l, l.length / 2, rfl, ha, by omega, by omega, fun H1 hl hs s1 hl0 hhl hat => ?_⟩
    exact ⟨wa, R, z, k.toNat, hl, hs, twos l, by rw [← ek]; rfl, wat.same s1, ok, by omega, hhl, hat, twos_le l, by rw [twos_len l (l.length / 2) (by omega)]; omega, fun H2 s2 => q H2 (s1.trans s2)⟩
theorem ok_w_show (F : Fun K "show" "Watcher.show" s_w_show f fd) (TW : TxtW K CW) (T : TxtR K mg CR) (C : HasF P w K mg base "tiles_of" 2 ["numbers"] (spTilesOf K)) (C2 : HasF P w K mg base "points_of" 1 ["hand"] (spPoints K))
    (M1 : HasM P w K mg base CW "show_refusal" 6 ["self", "player", "numbers"] (spShowRef CW CR K)) (M2 : HasM P w K mg base CR "note_hand" 2 ["self", "player", "hand"] (spNoteHand CR)) : FnOk P w K mg base CX0 7 f fd ["self", "player", "numbers"] (spShow CW CR K) := by
  obtain ⟨f0, fd0, m0, kp0, G0, b0⟩ := C
  obtain ⟨f3, fd3, m3, kp3, G3, b3⟩ := C2
  obtain ⟨f1, fd1, m1, G1, b1⟩ := M1
  obtain ⟨f2, fd2, m2, G2, b2⟩ := M2
  refine F.ok sc_w_show (fun vs H Q E h => ?_) (fun cdv A outer s H vs Q E hr h => ?_)
  · obtain ⟨wa, R, s, k, a, l, rfl, _⟩ := h
    rfl
  · obtain ⟨wa, R, z, k, a, l, rfl, wat, ha, hl20, q⟩ := h
    have hr1 : Room 1 _ := hr.mono (by decide)
    have hr2 : Room 2 _ := hr.mono (by decide)
    have nd := sc_w_show.nd
    refine ⟨_, pss_cons (ps_set (i := 3) nd rfl (Or.inl rfl) (pe_meth (pv 0) TW.cl m1 G1 hr b1 .nil pass0 (pa_cons (pv 1) (pa_cons (pv 2) pa_nil))))
      (pss_cons (ps_if (pt_cmpR op_lt (pv 3) pe_int (nomark _)) (pss_one (ps_ret (pe_lst (pa_cons (pv 3) pa_nil)))) pss_nil)
      (pss_cons (ps_set (i := 4) nd rfl (Or.inl rfl) (pe_call G0 hr2 rfl m0 kp0 b0 .nil pass0 (pa_cons (pv 2) pa_nil)))
      (pss_cons (ps_expr (pe_meth (pe_fld (pv 0) rfl) T.cl m2 G2 hr2 b2 .nil pass0 (pa_cons (pv 1) (pa_cons (pv 4) pa_nil))))
      (pss_one (ps_ret (pe_lst (pa_cons (pe_call G3 hr1 rfl m3 kp3 b3 .nil pass0 (pa_cons (pv 4) pa_nil)) (pa_cons (pe_callB call_lenD (by rfl) T.len PySem.boot_len (pa_cons (pe_fld (pe_fld (pv 0) rfl) rfl) pa_nil)) pa_nil)))))))), ?_⟩
    obtain ⟨⟨wdx, hw⟩, rat, val⟩ := id wat
    refine ⟨_, rfl, wa, wdx, _, rfl, hw, wF_no_show_refusal, _, rfl, _, rfl, wa, R, z, k, a, l, rfl, wat, ha, hl20, fun H1 s1 => ?_⟩
    have spec := spec_show val k l
    refine ⟨_, rfl, _, _, rfl, rfl, _, rfl, ?_⟩
    refine ite2 (fun c => ?_) (fun c => ?_)
    · have c' : showRef z k l < 0 := of_decide_eq_true c
      rw [if_pos c'] at spec
      exact ⟨_, rfl, by show 1 ≤ sizeLine; decide, fun pa hpa => q.refused wat s1 spec hpa⟩
    · have c' : ¬ showRef z k l < 0 := fun e => c (decide_eq_true e)
      rw [if_neg c'] at spec
      obtain ⟨ok, g1, g2, g3, g4, g5, g6, g7⟩ := showRef_pos val c'
      refine ⟨_, rfl, a, l, l.length / 2, rfl, s1.seq ha, by omega, by omega, fun H2 hl hs s2 hl0 hhl hat => ?_⟩
      have s12 := s1.trans s2
      have wat2 := wat.same s12
      obtain ⟨⟨wdx2, hw2⟩, ⟨kn, lk, sh, hkn, hlk, hsh, ra⟩, _⟩ := id wat2
      have ra1 : RawAt CR H1 R (rawOf z kn lk sh) ∨ True := .inr True.intro
      have htl := hand_tiles (s := z) hat (twos_le l) g4
      have ek : V.int k = nV k.toNat := by
        unfold nV
        rw [Int.toNat_of_nonneg g1.1]
      have nh : hl ∉ R.all := fun m => by
        obtain ⟨_, ⟨kn1, lk1, sh1, _, _, _, ra1⟩, _⟩ := wat.same s1
        unfold RA.all at m
        simp only [List.mem_cons, List.not_mem_nil, or_false] at m
        obtain ⟨_, h1, _⟩ := ra1.ln
        obtain ⟨_, h2, _⟩ := ra1.hd
        rcases m with w | w | w | w | w | w | w <;> rw [w] at hl0
        · rw [ra1.ins] at hl0; cases hl0
        · rw [h1] at hl0; cases hl0
        · rw [h2] at hl0; cases hl0
        · rw [ra1.rm] at hl0; cases hl0
        · rw [ra1.kn] at hl0; cases hl0
        · rw [ra1.lk] at hl0; cases hl0
        · rw [ra1.sh] at hl0; cases hl0
      refine ⟨_, rfl, wa, CW, wdx2, _, _, rfl, hw2, TW.cl, TW.seen, wF_seen, R.a, R.dx, _, rfl, ra.ins, rF_no_note_hand, _, rfl, _, rfl, R, z, k.toNat, hl, hs, (twos l).map toTile, by rw [← ek]; rfl, ok, wat2.2.1, hhl, nh, htl, g6, g7, g5, fun H3 sb3 rat3 => ?_⟩
      have hw3 : H3 wa = some (.ins CW wdx2 (wF (.ref R.a))) := sb3 _ _ hw2 wat2.out
      have kn0 : k.toNat < z.left.length := by omega
      have oks : Ok (shownBy z k.toNat ((twos l).map toTile)) := ok_show ok kn0 g6 g7 ((not_in_lookup _ _).mp g5)
      have wat3 : WatAt CW CR H3 wa R (shownBy z k.toNat ((twos l).map toTile)) := ⟨⟨wdx2, hw3⟩, rat3, .inr oks⟩
      obtain ⟨kn3, lk3, sh3, _, _, hsh3, ra3⟩ := id rat3
      have htl3 : TilesAt H3 hs ((twos l).map toTile) := tiles_but htl sb3 ra.no_tup
      refine ⟨_, rfl, hl, hs, (twos l).map toTile, rfl, sb3 _ _ hhl nh, htl3, by rw [List.length_map, twos_len l (l.length / 2) (by omega)]; omega, fun H4 s4 => ?_⟩
      have ra4 := ra3.same s4
      refine ⟨_, rfl, wa, CW, wdx2, _, _, rfl, s4 _ _ hw3, TW.cl, TW.seen, wF_seen, R.a, CR, R.dx, _, _, rfl, ra4.ins, T.cl, T.shown, rF_shown, R.sh, _, rfl, ra4.sh, by show 2 ≤ sizeLine; decide, fun pa hpa => ?_⟩
      have s5 := s4.trans (same_new (o := .lst [nV (Kg86.pips ((twos l).map toTile)), V.int ((sh3.length : Nat) : Int)]) hpa)
      refine q _ pa R ((frame_but ((but_same s12 _).trans sb3)).then_same s5) ?_ ?_ ?_
      · rw [spec]
        exact wat3.same s5
      · exact ra3.free ((but_same s12 _).trans sb3) (same_free s4 hpa)
      · rw [upd_same, spec]
        show some (HO.lst [V.int _, V.int ((sh3.length : Nat) : Int)]) = some (HO.lst [V.int _, V.int ((z.shown.length + 1 : Nat) : Int)])
        rw [hsh3.len]
        show some (HO.lst [V.int _, V.int (((z.shown ++ [(k.toNat, (twos l).map toTile)]).length : Nat) : Int)]) = _
        rw [List.length_append]
        rfl
end
end Dm
/-! ## DmRest -/
/-! The score, how it stands now, the line. -/
namespace Dm
open PySem PySem.Spec PyProof.Rows L2
open Kg86 (Tile full State)
def spScore (CW CR : Addr) : Sp := fun vs H Q _ => ∃ (wa : Addr) (R : RA) (s : State), vs = [.ref wa] ∧ WatAt CW CR H wa R s ∧ WDone CW CR Q H wa R s .score
def spNow (CW CR : Addr) : Sp := fun vs H Q _ => ∃ (wa : Addr) (R : RA) (s : State), vs = [.ref wa] ∧ WatAt CW CR H wa R s ∧ WDone CW CR Q H wa R s .now
def spLine (CW CR : Addr) : Sp := fun vs H Q _ => ∃ (wa : Addr) (R : RA) (s : State), vs = [.ref wa] ∧ WatAt CW CR H wa R s ∧ WDone CW CR Q H wa R s .line
structure TxtI (mg : Str → Option Value) : Prop where
  int : mg "int" = none
  sum : mg "sum" = none
theorem valid_few {s : State} (h : Valid s) : s.left.length ≤ 4 := by
  rcases h with e | h
  · rw [e]
    decide
  · exact h.few.2
theorem spec_score (s : State) (h : Valid s) : Kg86.spec s .score = if s.players = 0 then (s, Kg86.num (-2)) else if (s.over && decide (s.shown.length = s.left.length)) = false then (s, Kg86.num (-3)) else
    (s, ⟨((if 0 ≤ winnerI s then 1 else 0 : Nat) : Int), winnerI s :: Kg86.whole (s.sums.sum :: s.sums)⟩) := by
  show (if s.players = 0 then (s, Kg86.num (-2)) else if s.over = false ∨ s.shown.length < s.players then (s, Kg86.num (-3)) else
      (s, (⟨(Kg86.truth s.winner.isSome : Nat), (match s.winner with
        | some k => (k : Int)
        | none => -1) :: Kg86.whole (s.sums.sum :: s.sums)⟩ : Kg86.Ans))) = _
  by_cases c : s.players = 0
  · rw [if_pos c, if_pos c]
  rw [if_neg c, if_neg c]
  have ok := h.ok fun e => c (by unfold State.players; rw [e]; rfl)
  have sh := shown_short ok
  by_cases c2 : s.over = false ∨ s.shown.length < s.players
  · have c2' : (s.over && decide (s.shown.length = s.left.length)) = false := by
      rcases c2 with z | z
      · rw [z, Bool.false_and]
      · rw [Bool.and_eq_false_iff]
        exact .inr (decide_eq_false (by unfold State.players at z; omega))
    rw [if_pos c2, if_pos c2']
  · have c2' : ¬ (s.over && decide (s.shown.length = s.left.length)) = false := by
      rw [not_or] at c2
      have a := eqT c2.1
      have b : s.shown.length = s.left.length := by
        have := c2.2
        unfold State.players at this
        omega
      rw [a, decide_eq_true b]
      decide
    rw [if_neg c2, if_neg c2']
    unfold winnerI
    cases s.winner with
    | none => rfl
    | some k =>
      show (s, (⟨((1 : Nat) : Int), _⟩ : Kg86.Ans)) = (s, ⟨((if (0 : Int) ≤ (k : Int) then 1 else 0 : Nat) : Int), _⟩)
      rw [if_pos (by omega)]
section
variable {P : Program} {w : World} {K : PySem.W.Frag} {mg : Str → Option Value} {base : Heap} {CR CW : Addr} {f : Addr} {fd : FuncData}
theorem nsV_ints (l : List Nat) : nsV l = (l.map fun (n : Nat) => (n : Int)).map V.int := by
  unfold nsV
  rw [List.map_map]
  rfl
theorem ok_w_score (F : Fun K "score" "Watcher.score" s_w_score f fd) (TW : TxtW K CW) (T : TxtR K mg CR) (TI : TxtI mg) (M1 : HasM P w K mg base CW "has_round" 1 ["self"] (spHasRound CW CR)) (M2 : HasM P w K mg base CR "is_over" 1 ["self"] (spIsOver CR))
    (M3 : HasM P w K mg base CR "is_all_shown" 1 ["self"] (spAllShown CR)) (M4 : HasM P w K mg base CR "counts" 1 ["self"] (spCounts CR)) (M5 : HasM P w K mg base CR "winner" 2 ["self"] (spWinner CR)) : FnOk P w K mg base CX0 3 f fd ["self"] (spScore CW CR) := by
  obtain ⟨f1, fd1, m1, G1, b1⟩ := M1
  obtain ⟨f2, fd2, m2, G2, b2⟩ := M2
  obtain ⟨f3, fd3, m3, G3, b3⟩ := M3
  obtain ⟨f4, fd4, m4, G4, b4⟩ := M4
  obtain ⟨f5, fd5, m5, G5, b5⟩ := M5
  refine F.ok sc_w_score (fun vs H Q E h => ?_) (fun cdv A outer s H vs Q E hr h => ?_)
  · obtain ⟨wa, R, s, rfl, _⟩ := h
    rfl
  · obtain ⟨wa, R, z, rfl, wat, q⟩ := h
    have hr1 : Room 1 _ := hr.mono (by decide)
    have nd := sc_w_score.nd
    refine ⟨_, pss_cons (ps_if (pt_not (pt_val (pe_meth0 (pv 0) TW.cl m1 G1 hr1 b1 .nil pass0))) (pss_one (ps_ret (pe_lst (pa_cons (pe_un un_neg pe_int) pa_nil)))) pss_nil)
      (pss_cons (ps_if (pt_not (PW.pt (pw_and (pt_val (pe_meth0 (pe_fld (pv 0) rfl) T.cl m2 G2 hr1 b2 .nil pass0)) (pw_and1 (pt_val (pe_meth0 (pe_fld (pv 0) rfl) T.cl m3 G3 hr1 b3 .nil pass0)))))) (pss_one (ps_ret (pe_lst (pa_cons (pe_un un_neg pe_int) pa_nil)))) pss_nil)
      (pss_cons (ps_set (i := 1) nd rfl (Or.inl rfl) (pe_meth0 (pe_fld (pv 0) rfl) T.cl m4 G4 hr1 b4 .nil pass0))
      (pss_cons (ps_set (i := 2) nd rfl (Or.inl rfl) (pe_meth0 (pe_fld (pv 0) rfl) T.cl m5 G5 hr b5 .nil pass0))
      (pss_one (ps_ret (pe_op op_cat (pe_lst (pa_cons (pe_callTy call_int1 (by rfl) TI.int (by decide +kernel) (pa_cons (pe_cmpR op_ge (pv 2) pe_int (nomark _)) pa_nil)) (pa_cons (pv 2) (pa_cons (pe_callB (cr_sum rfl) (by rfl) TI.sum (by decide +kernel) (pa_cons (pv 1) pa_nil)) pa_nil)))) (pv 1))))))), ?_⟩
    obtain ⟨⟨wdx, hw⟩, ⟨kn, lk, sh, hkn, hlk, hsh, ra⟩, val⟩ := id wat
    have spec := spec_score z val
    refine ⟨_, rfl, wa, wdx, _, rfl, hw, wF_no_has_round, wa, R, z, rfl, wat, _, rfl, ?_⟩
    by_cases c : z.players = 0
    · rw [if_pos c] at spec
      rw [decide_eq_true c]
      exact iteT ⟨2, rfl, by show 1 ≤ sizeLine; decide, fun pa hpa => q.refused wat (Same.refl H) spec hpa⟩
    rw [if_neg c] at spec
    rw [decide_eq_false c]
    refine iteF ?_
    have ok := val.ok fun e => c (by unfold State.players; rw [e]; rfl)
    have tall : Tells (tMeth CR "is_all_shown" (spAllShown CR) [] E0 (tSeen K) tNil) (L2.start ["self", "counts", "winner"] [V.ref wa]) H (.bl (decide (z.shown.length = z.left.length))) := fun Q' q' =>
      tells_seen TW rfl wat _ ⟨R.a, R.dx, _, rfl, ra.ins, rF_no_is_all_shown, R, z, rfl, wat.2.1, q'⟩
    refine seq_if (tellsT_not (tellsT_and (tellsT_b (tells_over TW rfl wat)) fun _ => tellsT_b tall)) ?_
    by_cases c2 : (z.over && decide (z.shown.length = z.left.length)) = false
    · rw [if_pos c2] at spec
      rw [c2]
      exact iteT ⟨3, rfl, by show 1 ≤ sizeLine; decide, fun pa hpa => q.refused wat (Same.refl H) spec hpa⟩
    rw [if_neg c2] at spec
    have a2 := eqT c2
    rw [a2]
    refine iteF ?_
    rw [Bool.and_eq_true, decide_eq_true_eq] at a2
    refine ⟨_, rfl, wa, CW, wdx, _, _, rfl, hw, TW.cl, TW.seen, wF_seen, R.a, R.dx, _, rfl, ra.ins, rF_no_counts, R, z, rfl, ok, wat.2.1, a2.2, fun H1 p1 s1 hp10 hp1 => ?_⟩
    have wat1 := wat.same s1
    refine ⟨_, rfl, wa, CW, wdx, _, _, rfl, s1 _ _ hw, TW.cl, TW.seen, wF_seen, R.a, R.dx, _, rfl, s1 _ _ ra.ins, rF_no_winner, R, z, rfl, ok, wat1.2.1, a2.2, fun H2 s2 => ?_⟩
    have hp2 := s2 _ _ hp1
    refine ⟨_, rfl, _, _, rfl, rfl, .inr ⟨_, rfl, _, rfl, _, rfl, p1, _, rfl, SqL.of (by rw [hp2, nsV_ints]), by show 3 ≤ sizeLine; decide, fun l hl => ?_⟩⟩
    rw [sum_nV]
    have nlp : p1 ≠ l := ne_of_none hp2 hl
    refine ⟨_, rfl, l, p1, _, _, rfl, rfl, upd_same, by rw [upd_ne nlp]; exact hp2, ?_, fun pa hpa => ?_⟩
    · rw [nsV_len, sums_len]
      have := ok.few.2
      exact Nat.le_trans (by simp only [List.length_cons, List.length_nil]; omega : _ ≤ 100) (by decide)
    · have s3 := (s1.trans s2).trans (same_new (o := .lst [V.int (if decide (0 ≤ winnerI z) = true then 1 else 0), V.int (winnerI z), V.int ((z.sums.sum : Nat) : Int)]) hl)
      refine q _ pa R (frame_same (s3.trans (same_new hpa))) ?_ (same_free s3 hpa) ?_
      · rw [spec]
        exact wat.same (s3.trans (same_new hpa))
      · rw [upd_same, spec]
        show some (HO.lst (V.int (if decide (0 ≤ winnerI z) = true then 1 else 0) :: V.int (winnerI z) :: V.int ((z.sums.sum : Nat) : Int) :: nsV z.sums)) =
          some (HO.lst (V.int ((if 0 ≤ winnerI z then 1 else 0 : Nat) : Int) :: V.int (winnerI z) :: V.int ((z.sums.sum : Nat) : Int) :: (z.sums.map fun (n : Nat) => (n : Int)).map V.int))
        rw [nsV_ints]
        by_cases c3 : 0 ≤ winnerI z
        · rw [decide_eq_true c3, if_pos rfl, if_pos c3]
          rfl
        · rw [decide_eq_false c3, if_neg Bool.false_ne_true, if_neg c3]
          rfl
theorem ok_w_now (F : Fun K "now" "Watcher.now" s_w_now f fd) (TW : TxtW K CW) (T : TxtR K mg CR) (TI : TxtI mg) (M2 : HasM P w K mg base CR "is_over" 1 ["self"] (spIsOver CR)) (M3 : HasM P w K mg base CR "stands" 2 ["self"] (spStands CR)) :
    FnOk P w K mg base CX0 3 f fd ["self"] (spNow CW CR) := by
  obtain ⟨f2, fd2, m2, G2, b2⟩ := M2
  obtain ⟨f3, fd3, m3, G3, b3⟩ := M3
  refine F.ok sc_w_now (fun vs H Q E h => ?_) (fun cdv A outer s H vs Q E hr h => ?_)
  · obtain ⟨wa, R, s, rfl, _⟩ := h
    rfl
  · obtain ⟨wa, R, z, rfl, wat, q⟩ := h
    have hr1 : Room 1 _ := hr.mono (by decide)
    have nd := sc_w_now.nd
    refine ⟨_, pss_cons (ps_set (i := 1) nd rfl (Or.inl rfl) (pe_ix ix_list (pe_fld (pe_fld (pv 0) rfl) rfl) (pe_fld (pe_fld (pv 0) rfl) rfl) (fun _ _ => rfl)))
      (pss_cons (ps_set (i := 2) nd rfl (Or.inl rfl) (pe_op op_cat (pe_lst (pa_cons (pe_callTy call_int1 (by rfl) TI.int (by decide +kernel) (pa_cons (pe_meth0 (pe_fld (pv 0) rfl) T.cl m2 G2 hr1 b2 .nil pass0) pa_nil)) pa_nil)) (pe_meth0 (pe_fld (pv 0) rfl) T.cl m3 G3 hr b3 .nil pass0)))
      (pss_one (ps_ret (pe_op op_cat (pv 2) (pe_lst (pa_cons (pv 1) (pa_cons (pe_fld (pe_fld (pv 0) rfl) rfl) (pa_cons (pe_callB call_len_dT (by rfl) T.len PySem.boot_len (pa_cons (pe_fld (pe_fld (pv 0) rfl) rfl) pa_nil)) pa_nil)))))))), ?_⟩
    obtain ⟨⟨wdx, hw⟩, ⟨kn, lk, sh, hkn, hlk, hsh, ra⟩, val⟩ := id wat
    have few := valid_few val
    have at_ : atI (nsV z.caps) ((z.left.length : Nat) : Int) = some (nV z.rest) := by
      rw [atI_nV (by rw [caps_len]; omega)]
      congr 2
      unfold State.caps
      rw [List.getD_eq_getElem?_getD, List.getElem?_append_right (Nat.le_refl _), Nat.sub_self]
      rfl
    refine ⟨_, rfl, wa, CW, wdx, _, _, rfl, hw, TW.cl, TW.seen, wF_seen, R.a, CR, R.dx, _, _, rfl, ra.ins, T.cl, T.room, rF_room, _, rfl, wa, CW, wdx, _, _, rfl, hw, TW.cl, TW.seen, wF_seen, R.a, CR, R.dx, _, _, rfl, ra.ins, T.cl, T.players, rF_players, R.rm, nsV z.caps, _, _, rfl, rfl, SqL.of ra.rm, at_, ?_⟩
    refine ⟨_, rfl, wa, CW, wdx, _, _, rfl, hw, TW.cl, TW.seen, wF_seen, R.a, R.dx, _, rfl, ra.ins, rF_no_is_over, R, z, rfl, wat.2.1, .inr ⟨_, rfl, by show 1 ≤ sizeLine; decide, fun l hl => ?_⟩⟩
    have s1 := same_new (o := .lst [V.int (if z.over = true then 1 else 0)]) hl
    have wat1 := wat.same s1
    refine ⟨_, rfl, wa, CW, wdx, _, _, rfl, s1 _ _ hw, TW.cl, TW.seen, wF_seen, R.a, R.dx, _, rfl, s1 _ _ ra.ins, rF_no_stands, R, z, rfl, wat1.2.1, few, fun H2 p2 s2 hp20 hp2 => ?_⟩
    have hl2 := s2 _ _ (upd_same (H := H) (a := l) (o := .lst [V.int (if z.over = true then 1 else 0)]))
    have st := stands_cat few
    refine ⟨l, p2, _, _, rfl, rfl, hl2, hp2, ?_, fun t ht => ?_⟩
    · exact Nat.le_trans (by simp only [List.length_cons, List.length_nil]; omega : _ ≤ 100) (by decide)
    have s3 := (s1.trans s2).trans (same_new (o := .lst ([V.int (if z.over = true then 1 else 0)] ++ toldV z)) ht)
    have ra3 := ra.same s3
    have ht3 : upd H2 t (.lst ([V.int (if z.over = true then 1 else 0)] ++ toldV z)) t = some (.lst ([V.int (if z.over = true then 1 else 0)] ++ toldV z)) := upd_same
    refine ⟨_, rfl, _, rfl, _, rfl, wa, CW, wdx, _, _, rfl, s3 _ _ hw, TW.cl, TW.seen, wF_seen, R.a, CR, R.dx, _, _, rfl, ra3.ins, T.cl, T.passes, rF_passes, _, rfl, wa, CW, wdx, _, _, rfl, s3 _ _ hw, TW.cl, TW.seen, wF_seen, R.a, CR, R.dx, _, _, rfl, ra3.ins, T.cl, T.known, rF_known, R.kn, _, rfl, ra3.kn, by show 3 ≤ sizeLine; decide, fun l4 hl4 => ?_⟩
    have ht4 := (same_new (o := .lst [nV z.rest, V.int (rawOf z kn lk sh).passes, V.int ((kn.length : Nat) : Int)]) hl4) _ _ ht3
    refine ⟨t, l4, _, _, rfl, rfl, ht4, upd_same, ?_, fun pa hpa => ?_⟩
    · exact Nat.le_trans (by simp only [List.length_append, List.length_cons, List.length_nil]; omega : _ ≤ 100) (by decide)
    · have s4 := s3.trans (same_new (o := .lst [nV z.rest, V.int (rawOf z kn lk sh).passes, V.int ((kn.length : Nat) : Int)]) hl4)
      have s5 := s4.trans (same_new (o := .lst (([V.int (if z.over = true then 1 else 0)] ++ toldV z) ++ [nV z.rest, V.int (rawOf z kn lk sh).passes, V.int ((kn.length : Nat) : Int)])) hpa)
      refine q _ pa R (frame_same s5) ?_ (same_free s4 hpa) ?_
      · exact wat.same s5
      · rw [upd_same, show (rawOf z kn lk sh).kn = kn from rfl, hkn.len]
        show _ = some (HO.lst (V.int ((Kg86.truth z.over : Nat) : Int) :: (Kg86.told z ++ Kg86.whole [z.rest, z.passes, z.known.length]).map V.int))
        rw [List.map_append]
        have e : (if z.over = true then (1 : Int) else 0) = ((Kg86.truth z.over : Nat) : Int) := by
          unfold Kg86.truth
          cases z.over <;> rfl
        rw [e]
        rfl
theorem ok_w_line (F : Fun K "tell_line" "Watcher.tell_line" s_w_tell_line f fd) (TW : TxtW K CW) (T : TxtR K mg CR) : FnOk P w K mg base CX0 1 f fd ["self"] (spLine CW CR) := by
  refine F.ok sc_w_tell_line (fun vs H Q E h => ?_) (fun cdv A outer s H vs Q E hr h => ?_)
  · obtain ⟨wa, R, s, rfl, _⟩ := h
    rfl
  · obtain ⟨wa, R, z, rfl, wat, q⟩ := h
    have nd := sc_w_tell_line.nd
    refine ⟨_, pss_cons (ps_set (i := 1) nd rfl (Or.inl rfl) (pe_lst (pa_cons (pe_callB call_len_seq (by rfl) T.len PySem.boot_len (pa_cons (pe_fld (pe_fld (pv 0) rfl) rfl) pa_nil)) pa_nil)))
      (pss_cons (ps_for PassesOwn.never rfl (pi_list (pe_fld (pe_fld (pv 0) rfl) rfl)) (pg_name (i := 2) nd rfl (Or.inl rfl))
        (pss_one (ps_expr (pe_bm PySem.F.plainAttrs_list PySem.F.slot_list_extend PySem.F.type_list_extend mt_extendT (pv 1) (pa_cons (pv 2) pa_nil)))))
      (pss_one (ps_ret (pv 1)))), ?_⟩
    obtain ⟨⟨wdx, hw⟩, ⟨kn, lk, sh, hkn, hlk, hsh, ra⟩, val⟩ := id wat
    obtain ⟨lv, hln, hplv⟩ := ra.ln
    have hlen : lv.length = z.line.length := Paired.length hplv
    have short : z.line.length ≤ 28 := by
      rcases val with e | ok
      · rw [e]
        decide
      · exact line_short ok
    refine ⟨_, rfl, wa, CW, wdx, _, _, rfl, hw, TW.cl, TW.seen, wF_seen, R.a, CR, R.dx, _, _, rfl, ra.ins, T.cl, T.line, rF_line, R.ln, lv, rfl, .inl (SqL.of hln), by show 1 ≤ sizeLine; decide, fun l hl => ?_⟩
    rw [hlen]
    have s1 := same_new (o := .lst [V.int ((z.line.length : Nat) : Int)]) hl
    have ra1 := ra.same s1
    refine ⟨_, rfl, wa, CW, wdx, _, _, rfl, s1 _ _ hw, TW.cl, TW.seen, wF_seen, R.a, CR, R.dx, _, _, rfl, ra1.ins, T.cl, T.line, rF_line, R.ln, rfl, ⟨lv, SqL.of (s1 _ _ hln)⟩, ?_⟩
    refine for_it (walk_list (K := K) (a := R.ln) (xs := lv))
      (fun i σ H' => ∃ v2 : Option V, σ = [some (.ref wa), some (.ref l), v2] ∧ Same H H' ∧ H' l = some (.lst (V.int ((z.line.length : Nat) : Int) :: nsV ((z.line.take i).flatMap fun x => [x.1, x.2]))))
      ⟨none, rfl, s1, upd_same⟩ (fun i σ H' _ ⟨_, _, sm, _⟩ => SqL.of (sm _ _ hln)) ?_ ?_
    · rintro i x σ H2 H3 hi ⟨v2, rfl, sm, hl2⟩ ⟨rfl, hx⟩
      have hx' : z.line[i]? = some (z.line[i]'(by omega)) := List.getElem?_eq_getElem _
      obtain ⟨p, hp1, hp2⟩ := pairs_get hplv hx'
      rw [hx] at hp1
      cases Option.some.inj hp1
      generalize z.line[i] = pr at hx' hp2
      have flen : ((z.line.take i).flatMap fun x => [x.1, x.2]).length ≤ 60 := by
        have gen : ∀ m : List (Nat × Nat), (m.flatMap fun x => [x.1, x.2]).length = 2 * m.length := by
          intro m
          induction m with
          | nil => rfl
          | cons a r ih =>
            rw [List.flatMap_cons, List.length_append, ih]
            simp
            omega
        rw [gen, List.length_take]
        omega
      refine ⟨_, rfl, .inl ⟨rfl, _, SqL.of hl2⟩, _, rfl, l, p, _, _, rfl, rfl, hl2, SqT.of (sm _ _ hp2), ?_, ?_⟩
      · have : (pairV pr).length = 2 := rfl
        rw [this, List.length_cons, nsV_len]
        exact Nat.le_trans (by omega : _ ≤ 100) (by decide)
      · refine ⟨_, rfl, fun b o e => ?_, ?_⟩
        · rw [upd_ne (ne_of_none e hl)]
          exact sm _ _ e
        · rw [upd_same, take_snoc hx', List.flatMap_append]
          unfold nsV
          rw [List.map_append]
          rfl
    · rintro σ H2 ⟨v2, rfl, sm, hl2⟩
      rw [hlen, List.take_length] at hl2
      refine ⟨_, rfl, ?_⟩
      refine q H2 l R (frame_same sm) (wat.same sm) hl ?_
      rw [hl2, nsV_ints]
      rfl
end
end Dm
/-! ## DmTable -/
/-! The table: one call, the list of calls. -/
namespace Dm
open PySem PySem.Spec PyProof.Rows L2
open Kg86 (Tile full State)
theorem toCall_cases {p : Int} {ns row : List Int} {k : Kg86.Call} (h : toCall p ns row = some k) :
    (∃ a b c d, p = 1 ∧ ns = [a, b, c, d] ∧ k = .begin_ a b c d) ∨ (∃ a b c, p = 2 ∧ ns = [a, b, c] ∧ k = .know a b c) ∨ (∃ a b c, p = 3 ∧ ns = [a, b, c] ∧ k = .play a b c) ∨ (p = 4 ∧ ns = [] ∧ k = .pass) ∨ (p = 5 ∧ ns = [] ∧ k = .deals) ∨
    (∃ a b, p = 6 ∧ ns = [a, b] ∧ k = .may a b) ∨ (∃ a, p = 7 ∧ ns = [a] ∧ k = .show_ a row) ∨ (p = 8 ∧ ns = [] ∧ k = .score) ∨ (p = 9 ∧ ns = [] ∧ k = .now) ∨ (p = 10 ∧ ns = [] ∧ k = .line) := by
  match ns, h with
  | [a, b, c, d], h =>
    have h : (if p = 1 then some (Kg86.Call.begin_ a b c d) else none) = some k := h
    by_cases e : p = 1
    · rw [if_pos e] at h
      exact .inl ⟨a, b, c, d, e, rfl, (Option.some.inj h).symm⟩
    · rw [if_neg e] at h
      cases h
  | [a, b, c], h =>
    have h : (if p = 2 then some (Kg86.Call.know a b c) else if p = 3 then some (Kg86.Call.play a b c) else none) = some k := h
    by_cases e : p = 2
    · rw [if_pos e] at h
      exact .inr (.inl ⟨a, b, c, e, rfl, (Option.some.inj h).symm⟩)
    · rw [if_neg e] at h
      by_cases e : p = 3
      · rw [if_pos e] at h
        exact .inr (.inr (.inl ⟨a, b, c, e, rfl, (Option.some.inj h).symm⟩))
      · rw [if_neg e] at h
        cases h
  | [a, b], h =>
    have h : (if p = 6 then some (Kg86.Call.may a b) else none) = some k := h
    by_cases e : p = 6
    · rw [if_pos e] at h
      exact .inr (.inr (.inr (.inr (.inr (.inl ⟨a, b, e, rfl, (Option.some.inj h).symm⟩)))))
    · rw [if_neg e] at h
      cases h
  | [a], h =>
    have h : (if p = 7 then some (Kg86.Call.show_ a row) else none) = some k := h
    by_cases e : p = 7
    · rw [if_pos e] at h
      exact .inr (.inr (.inr (.inr (.inr (.inr (.inl ⟨a, e, rfl, (Option.some.inj h).symm⟩))))))
    · rw [if_neg e] at h
      cases h
  | [], h =>
    have h : (if p = 4 then some Kg86.Call.pass else if p = 5 then some .deals else if p = 8 then some .score else if p = 9 then some .now else if p = 10 then some .line else none) = some k := h
    by_cases e : p = 4
    · rw [if_pos e] at h
      exact .inr (.inr (.inr (.inl ⟨e, rfl, (Option.some.inj h).symm⟩)))
    rw [if_neg e] at h
    by_cases e : p = 5
    · rw [if_pos e] at h
      exact .inr (.inr (.inr (.inr (.inl ⟨e, rfl, (Option.some.inj h).symm⟩))))
    rw [if_neg e] at h
    by_cases e : p = 8
    · rw [if_pos e] at h
      exact .inr (.inr (.inr (.inr (.inr (.inr (.inr (.inl ⟨e, rfl, (Option.some.inj h).symm⟩)))))))
    rw [if_neg e] at h
    by_cases e : p = 9
    · rw [if_pos e] at h
      exact .inr (.inr (.inr (.inr (.inr (.inr (.inr (.inr (.inl ⟨e, rfl, (Option.some.inj h).symm⟩))))))))
    rw [if_neg e] at h
    by_cases e : p = 10
    · rw [if_pos e] at h
      exact .inr (.inr (.inr (.inr (.inr (.inr (.inr (.inr (.inr ⟨e, rfl, (Option.some.inj h).symm⟩))))))))
    rw [if_neg e] at h
    cases h
  | a :: b :: c :: d :: e :: r, h => exact absurd h (by simp [toCall])
structure TxtA (K : PySem.W.Frag) (mg : Str → Option Value) : Prop where
  c1 : ∃ tk, mg "BEGIN" = some (.int 1 tk)
  c2 : ∃ tk, mg "KNOW" = some (.int 2 tk)
  c3 : ∃ tk, mg "PLAY" = some (.int 3 tk)
  c4 : ∃ tk, mg "PASS" = some (.int 4 tk)
  c5 : ∃ tk, mg "DEALS" = some (.int 5 tk)
  c6 : ∃ tk, mg "MAY" = some (.int 6 tk)
  c7 : ∃ tk, mg "SHOW" = some (.int 7 tk)
  c8 : ∃ tk, mg "SCORE" = some (.int 8 tk)
  c9 : ∃ tk, mg "NOW" = some (.int 9 tk)
  lens : ∃ pL, mg "LENGTHS" = some (.ref pL) ∧ ∀ (p : Int) (n : Nat), lenOf p = some n → KNum K pL p (nV n)
  len : mg "len" = none
theorem ite_no {x y : Int} {A B : Prop} (h : x ≠ y) (b : B) : if decide (V.int x = V.int y) = true then A else B := by
  rw [decide_eq_false fun z => h (by injection z)]
  exact iteF b
theorem ite_yes {x : Int} {A B : Prop} (a : A) : if decide (V.int x = V.int x) = true then A else B := by
  rw [decide_eq_true rfl]
  exact iteT a
def spAnswerOf (CW CR : Addr) : Sp := fun vs H Q _ => ∃ (wa : Addr) (R : RA) (s : State) (p : Int) (nl rl : Addr) (ns row : List Int) (k : Kg86.Call), vs = [.ref wa, .int p, .ref nl, .ref rl] ∧ WatAt CW CR H wa R s ∧ H nl = some (.lst (ns.map V.int)) ∧ H rl = some (.lst (row.map V.int)) ∧ row.length ≤ 20 ∧
  toCall p ns row = some k ∧ WDone CW CR Q H wa R s k
section
variable {P : Program} {w : World} {K : PySem.W.Frag} {mg : Str → Option Value} {base : Heap} {CR CW : Addr} {f : Addr} {fd : FuncData}
theorem ok_answer_of (F : Fun K "answer_of" "answer_of" s_f_answer_of f fd) (TW : TxtW K CW) (TA' : TxtA K mg)
    (M1 : HasM P w K mg base CW "begin" 4 ["self", "players", "each", "greatest", "first"] (spBegin CW CR)) (M2 : HasM P w K mg base CW "know" 6 ["self", "place", "one", "other"] (spKnow CW CR)) (M3 : HasM P w K mg base CW "play" 6 ["self", "one", "other", "side"] (spPlay CW CR))
    (M4 : HasM P w K mg base CW "pass_by" 6 ["self"] (spPassBy CW CR)) (M5 : HasM P w K mg base CW "count_fitting" 5 ["self"] (spFitting CW CR)) (M6 : HasM P w K mg base CW "may" 5 ["self", "one", "other"] (spMay CW CR)) (M7 : HasM P w K mg base CW "show" 7 ["self", "player", "numbers"] (spShow CW CR K))
    (M8 : HasM P w K mg base CW "score" 3 ["self"] (spScore CW CR)) (M9 : HasM P w K mg base CW "now" 3 ["self"] (spNow CW CR)) (M10 : HasM P w K mg base CW "tell_line" 1 ["self"] (spLine CW CR)) :
    FnOk P w K mg base CX0 8 f fd ["watcher", "call", "numbers", "row"] (spAnswerOf CW CR) := by
  obtain ⟨f1, fd1, m1, G1, b1⟩ := M1
  obtain ⟨f2, fd2, m2, G2, b2⟩ := M2
  obtain ⟨f3, fd3, m3, G3, b3⟩ := M3
  obtain ⟨f4, fd4, m4, G4, b4⟩ := M4
  obtain ⟨f5, fd5, m5, G5, b5⟩ := M5
  obtain ⟨f6, fd6, m6, G6, b6⟩ := M6
  obtain ⟨f7, fd7, m7, G7, b7⟩ := M7
  obtain ⟨f8, fd8, m8, G8, b8⟩ := M8
  obtain ⟨f9, fd9, m9, G9, b9⟩ := M9
  obtain ⟨f10, fd10, m10, G10, b10⟩ := M10
  obtain ⟨tk1, c1⟩ := TA'.c1
  obtain ⟨tk2, c2⟩ := TA'.c2
  obtain ⟨tk3, c3⟩ := TA'.c3
  obtain ⟨tk4, c4⟩ := TA'.c4
  obtain ⟨tk5, c5⟩ := TA'.c5
  obtain ⟨tk6, c6⟩ := TA'.c6
  obtain ⟨tk7, c7⟩ := TA'.c7
  obtain ⟨tk8, c8⟩ := TA'.c8
  obtain ⟨tk9, c9⟩ := TA'.c9
  refine F.ok sc_f_answer_of (fun vs H Q E h => ?_) (fun cdv A outer s H vs Q E hr h => ?_)
  · obtain ⟨wa, R, s, p, nl, rl, ns, row, k, rfl, _⟩ := h
    rfl
  · obtain ⟨wa, R, z, p, nl, rl, ns, row, k, rfl, wat, hn, hrow, hlen, hk, q⟩ := h
    have r1 : Room 1 _ := hr.mono (by decide)
    have r3 : Room 3 _ := hr.mono (by decide)
    have r4 : Room 4 _ := hr.mono (by decide)
    have r5 : Room 5 _ := hr.mono (by decide)
    have r6 : Room 6 _ := hr.mono (by decide)
    refine ⟨_, pss_cons (ps_if (pt_cmpR op_eq (pv 1) (pe_glob (v := V.int 1) rfl c1 ⟨_, rfl⟩) (nomark _)) (pss_one (ps_ret (pe_meth (pv 0) TW.cl m1 G1 r4 b1 .nil pass0
          (pa_cons (pe_ix ix_list (pv 2) pe_int (fun _ _ => rfl)) (pa_cons (pe_ix ix_list (pv 2) pe_int (fun _ _ => rfl)) (pa_cons (pe_ix ix_list (pv 2) pe_int (fun _ _ => rfl)) (pa_cons (pe_ix ix_list (pv 2) pe_int (fun _ _ => rfl)) pa_nil))))))) pss_nil)
      (pss_cons (ps_if (pt_cmpR op_eq (pv 1) (pe_glob (v := V.int 2) rfl c2 ⟨_, rfl⟩) (nomark _)) (pss_one (ps_ret (pe_meth (pv 0) TW.cl m2 G2 r6 b2 .nil pass0
          (pa_cons (pe_ix ix_list (pv 2) pe_int (fun _ _ => rfl)) (pa_cons (pe_ix ix_list (pv 2) pe_int (fun _ _ => rfl)) (pa_cons (pe_ix ix_list (pv 2) pe_int (fun _ _ => rfl)) pa_nil)))))) pss_nil)
      (pss_cons (ps_if (pt_cmpR op_eq (pv 1) (pe_glob (v := V.int 3) rfl c3 ⟨_, rfl⟩) (nomark _)) (pss_one (ps_ret (pe_meth (pv 0) TW.cl m3 G3 r6 b3 .nil pass0
          (pa_cons (pe_ix ix_list (pv 2) pe_int (fun _ _ => rfl)) (pa_cons (pe_ix ix_list (pv 2) pe_int (fun _ _ => rfl)) (pa_cons (pe_ix ix_list (pv 2) pe_int (fun _ _ => rfl)) pa_nil)))))) pss_nil)
      (pss_cons (ps_if (pt_cmpR op_eq (pv 1) (pe_glob (v := V.int 4) rfl c4 ⟨_, rfl⟩) (nomark _)) (pss_one (ps_ret (pe_meth0 (pv 0) TW.cl m4 G4 r6 b4 .nil pass0))) pss_nil)
      (pss_cons (ps_if (pt_cmpR op_eq (pv 1) (pe_glob (v := V.int 5) rfl c5 ⟨_, rfl⟩) (nomark _)) (pss_one (ps_ret (pe_meth0 (pv 0) TW.cl m5 G5 r5 b5 .nil pass0))) pss_nil)
      (pss_cons (ps_if (pt_cmpR op_eq (pv 1) (pe_glob (v := V.int 6) rfl c6 ⟨_, rfl⟩) (nomark _)) (pss_one (ps_ret (pe_meth (pv 0) TW.cl m6 G6 r5 b6 .nil pass0
          (pa_cons (pe_ix ix_list (pv 2) pe_int (fun _ _ => rfl)) (pa_cons (pe_ix ix_list (pv 2) pe_int (fun _ _ => rfl)) pa_nil))))) pss_nil)
      (pss_cons (ps_if (pt_cmpR op_eq (pv 1) (pe_glob (v := V.int 7) rfl c7 ⟨_, rfl⟩) (nomark _)) (pss_one (ps_ret (pe_meth (pv 0) TW.cl m7 G7 hr b7 .nil pass0
          (pa_cons (pe_ix ix_list (pv 2) pe_int (fun _ _ => rfl)) (pa_cons (pv 3) pa_nil))))) pss_nil)
      (pss_cons (ps_if (pt_cmpR op_eq (pv 1) (pe_glob (v := V.int 8) rfl c8 ⟨_, rfl⟩) (nomark _)) (pss_one (ps_ret (pe_meth0 (pv 0) TW.cl m8 G8 r3 b8 .nil pass0))) pss_nil)
      (pss_cons (ps_if (pt_cmpR op_eq (pv 1) (pe_glob (v := V.int 9) rfl c9 ⟨_, rfl⟩) (nomark _)) (pss_one (ps_ret (pe_meth0 (pv 0) TW.cl m9 G9 r3 b9 .nil pass0))) pss_nil)
      (pss_one (ps_ret (pe_meth0 (pv 0) TW.cl m10 G10 r1 b10 .nil pass0))))))))))), ?_⟩
    obtain ⟨⟨wdx, hw⟩, rat, val⟩ := id wat
    rcases toCall_cases hk with ⟨a, b, c, d, rfl, rfl, rfl⟩ | ⟨a, b, c, rfl, rfl, rfl⟩ | ⟨a, b, c, rfl, rfl, rfl⟩ | ⟨rfl, rfl, rfl⟩ | ⟨rfl, rfl, rfl⟩ | ⟨a, b, rfl, rfl, rfl⟩ | ⟨a, rfl, rfl, rfl⟩ | ⟨rfl, rfl, rfl⟩ | ⟨rfl, rfl, rfl⟩ | ⟨rfl, rfl, rfl⟩
    · refine ⟨_, rfl, rfl, _, rfl, ite_yes ?_⟩
      exact ⟨_, rfl, wa, wdx, _, rfl, hw, wF_no_begin, _, rfl, nl, _, 0, _, rfl, rfl, SqL.of hn, rfl, _, rfl, nl, _, 1, _, rfl, rfl, SqL.of hn, rfl, _, rfl, nl, _, 2, _, rfl, rfl, SqL.of hn, rfl, _, rfl, nl, _, 3, _, rfl, rfl, SqL.of hn, rfl, wa, R, z, a, b, c, d, rfl, wat, q⟩
    · refine ⟨_, rfl, rfl, _, rfl, ite_no (by decide) ?_⟩
      refine ⟨_, rfl, rfl, _, rfl, ite_yes ?_⟩
      exact ⟨_, rfl, wa, wdx, _, rfl, hw, wF_no_know, _, rfl, nl, _, 0, _, rfl, rfl, SqL.of hn, rfl, _, rfl, nl, _, 1, _, rfl, rfl, SqL.of hn, rfl, _, rfl, nl, _, 2, _, rfl, rfl, SqL.of hn, rfl, wa, R, z, a, b, c, rfl, wat, q⟩
    · refine ⟨_, rfl, rfl, _, rfl, ite_no (by decide) ?_⟩
      refine ⟨_, rfl, rfl, _, rfl, ite_no (by decide) ?_⟩
      refine ⟨_, rfl, rfl, _, rfl, ite_yes ?_⟩
      exact ⟨_, rfl, wa, wdx, _, rfl, hw, wF_no_play, _, rfl, nl, _, 0, _, rfl, rfl, SqL.of hn, rfl, _, rfl, nl, _, 1, _, rfl, rfl, SqL.of hn, rfl, _, rfl, nl, _, 2, _, rfl, rfl, SqL.of hn, rfl, wa, R, z, a, b, c, rfl, wat, q⟩
    · refine ⟨_, rfl, rfl, _, rfl, ite_no (by decide) ?_⟩
      refine ⟨_, rfl, rfl, _, rfl, ite_no (by decide) ?_⟩
      refine ⟨_, rfl, rfl, _, rfl, ite_no (by decide) ?_⟩
      refine ⟨_, rfl, rfl, _, rfl, ite_yes ?_⟩
      exact ⟨_, rfl, wa, wdx, _, rfl, hw, wF_no_pass_by, wa, R, z, rfl, wat, q⟩
    · refine ⟨_, rfl, rfl, _, rfl, ite_no (by decide) ?_⟩
      refine ⟨_, rfl, rfl, _, rfl, ite_no (by decide) ?_⟩
      refine ⟨_, rfl, rfl, _, rfl, ite_no (by decide) ?_⟩
      refine ⟨_, rfl, rfl, _, rfl, ite_no (by decide) ?_⟩
      refine ⟨_, rfl, rfl, _, rfl, ite_yes ?_⟩
      exact ⟨_, rfl, wa, wdx, _, rfl, hw, wF_no_count_fitting, wa, R, z, rfl, wat, q⟩
    · refine ⟨_, rfl, rfl, _, rfl, ite_no (by decide) ?_⟩
      refine ⟨_, rfl, rfl, _, rfl, ite_no (by decide) ?_⟩
      refine ⟨_, rfl, rfl, _, rfl, ite_no (by decide) ?_⟩
      refine ⟨_, rfl, rfl, _, rfl, ite_no (by decide) ?_⟩
      refine ⟨_, rfl, rfl, _, rfl, ite_no (by decide) ?_⟩
      refine ⟨_, rfl, rfl, _, rfl, ite_yes ?_⟩
      exact ⟨_, rfl, wa, wdx, _, rfl, hw, wF_no_may, _, rfl, nl, _, 0, _, rfl, rfl, SqL.of hn, rfl, _, rfl, nl, _, 1, _, rfl, rfl, SqL.of hn, rfl, wa, R, z, a, b, rfl, wat, q⟩
    · refine ⟨_, rfl, rfl, _, rfl, ite_no (by decide) ?_⟩
      refine ⟨_, rfl, rfl, _, rfl, ite_no (by decide) ?_⟩
      refine ⟨_, rfl, rfl, _, rfl, ite_no (by decide) ?_⟩
      refine ⟨_, rfl, rfl, _, rfl, ite_no (by decide) ?_⟩
      refine ⟨_, rfl, rfl, _, rfl, ite_no (by decide) ?_⟩
      refine ⟨_, rfl, rfl, _, rfl, ite_no (by decide) ?_⟩
      refine ⟨_, rfl, rfl, _, rfl, ite_yes ?_⟩
      exact ⟨_, rfl, wa, wdx, _, rfl, hw, wF_no_show, _, rfl, nl, _, 0, _, rfl, rfl, SqL.of hn, rfl, _, rfl, wa, R, z, a, rl, row, rfl, wat, SqL.of hrow, hlen, q⟩
    · refine ⟨_, rfl, rfl, _, rfl, ite_no (by decide) ?_⟩
      refine ⟨_, rfl, rfl, _, rfl, ite_no (by decide) ?_⟩
      refine ⟨_, rfl, rfl, _, rfl, ite_no (by decide) ?_⟩
      refine ⟨_, rfl, rfl, _, rfl, ite_no (by decide) ?_⟩
      refine ⟨_, rfl, rfl, _, rfl, ite_no (by decide) ?_⟩
      refine ⟨_, rfl, rfl, _, rfl, ite_no (by decide) ?_⟩
      refine ⟨_, rfl, rfl, _, rfl, ite_no (by decide) ?_⟩
      refine ⟨_, rfl, rfl, _, rfl, ite_yes ?_⟩
      exact ⟨_, rfl, wa, wdx, _, rfl, hw, wF_no_score, wa, R, z, rfl, wat, q⟩
    · refine ⟨_, rfl, rfl, _, rfl, ite_no (by decide) ?_⟩
      refine ⟨_, rfl, rfl, _, rfl, ite_no (by decide) ?_⟩
      refine ⟨_, rfl, rfl, _, rfl, ite_no (by decide) ?_⟩
      refine ⟨_, rfl, rfl, _, rfl, ite_no (by decide) ?_⟩
      refine ⟨_, rfl, rfl, _, rfl, ite_no (by decide) ?_⟩
      refine ⟨_, rfl, rfl, _, rfl, ite_no (by decide) ?_⟩
      refine ⟨_, rfl, rfl, _, rfl, ite_no (by decide) ?_⟩
      refine ⟨_, rfl, rfl, _, rfl, ite_no (by decide) ?_⟩
      refine ⟨_, rfl, rfl, _, rfl, ite_yes ?_⟩
      exact ⟨_, rfl, wa, wdx, _, rfl, hw, wF_no_now, wa, R, z, rfl, wat, q⟩
    · refine ⟨_, rfl, rfl, _, rfl, ite_no (by decide) ?_⟩
      refine ⟨_, rfl, rfl, _, rfl, ite_no (by decide) ?_⟩
      refine ⟨_, rfl, rfl, _, rfl, ite_no (by decide) ?_⟩
      refine ⟨_, rfl, rfl, _, rfl, ite_no (by decide) ?_⟩
      refine ⟨_, rfl, rfl, _, rfl, ite_no (by decide) ?_⟩
      refine ⟨_, rfl, rfl, _, rfl, ite_no (by decide) ?_⟩
      refine ⟨_, rfl, rfl, _, rfl, ite_no (by decide) ?_⟩
      refine ⟨_, rfl, rfl, _, rfl, ite_no (by decide) ?_⟩
      refine ⟨_, rfl, rfl, _, rfl, ite_no (by decide) ?_⟩
      exact ⟨_, rfl, wa, wdx, _, rfl, hw, wF_no_tell_line, wa, R, z, rfl, wat, q⟩
end
end Dm
/-! ## DmAll -/
/-! All calls of a list. -/
namespace Dm
open PySem PySem.Spec PyProof.Rows L2
open Kg86 (Tile full State)
theorem cut_mid (ns : List Int) (i j : Nat) (hi : i ≤ ns.length) (hj : j ≤ ns.length) : cutV (ns.map V.int) (some (i : Int)) (some (j : Int)) = ((ns.drop i).take (j - i)).map V.int := by
  unfold cutV
  rw [HT.sIx_nat, HT.sIx_nat, List.length_map, Nat.min_eq_left hi, Nat.min_eq_left hj, List.map_take, List.map_drop]
theorem drop_at {ns rest : List Int} {i : Nat} {p : Int} (h : ns.drop i = p :: rest) : i < ns.length ∧ ns.getD i 0 = p ∧ ns.drop (i + 1) = rest := by
  have hl : i < ns.length := by
    have := congrArg List.length h
    rw [List.length_drop, List.length_cons] at this
    omega
  rw [List.drop_eq_getElem_cons hl] at h
  injection h with h1 h2
  refine ⟨hl, ?_, h2⟩
  rw [List.getD_eq_getElem?_getD, List.getElem?_eq_getElem hl]
  exact h1
def spAnswers (K : PySem.W.Frag) : Sp := fun vs H Q _ => ∃ (a : Addr) (ns : List Int), vs = [.ref a] ∧ SqL K H a (ns.map V.int) ∧ PyKg86.answers_asked ns = true ∧
  ∀ (H' : Hp) (p : Addr), H' p = some (.lst ((PyKg86.answers ns).map V.int)) → Q (.ref p) H'
def posOf (σ : L2.St) : Nat := match σ[3]? with
  | some (some (V.int i)) => i.toNat
  | _ => 0
/-- how the loop stands -/
def Going (CW CR : Addr) (H0 : Hp) (a wa tl : Addr) (ns : List Int) (σ : L2.St) (H : Hp) : Prop :=
  ∃ (i : Nat) (v4 v5 v6 v7 : Option V) (out : List Int) (s : State) (R : RA) (f : Nat) (cs : List (List (List Int))), σ = [some (.ref a), some (.ref wa), some (.ref tl), some (.int (i : Int)), v4, v5, v6, v7] ∧ i ≤ ns.length ∧ Same H0 H ∧
    H tl = some (.lst (out.map V.int)) ∧ tl ≠ wa ∧ tl ∉ R.all ∧ WatAt CW CR H wa R s ∧ (∀ b ∈ R.all, H0 b = none) ∧ PyFlat.calls PyKg86.shape f (ns.drop i) = some cs ∧ cs.all Kg86Neutral.asked1 = true ∧ out ++ dueFrom s cs = PyKg86.answers ns
theorem WatAt.told {CW CR : Addr} {H : Hp} {wa : Addr} {R : RA} {s : State} (h : WatAt CW CR H wa R s) {tl : Addr} {xs ys : List V} (ht : H tl = some (.lst xs)) (n1 : tl ≠ wa) (n2 : tl ∉ R.all) : WatAt CW CR (upd H tl (.lst ys)) wa R s := by
  obtain ⟨⟨wdx, hw⟩, ⟨kn, lk, sh, hkn, hlk, hsh, ra⟩, val⟩ := h
  exact ⟨⟨wdx, by rw [upd_ne n1.symm]; exact hw⟩, ⟨kn, lk, sh, hkn, hlk, hsh, ra.atWat (fun b hb e => n2 (e ▸ hb)) ht fun _ z => nomatch z⟩, val⟩
section
variable {P : Program} {w : World} {K : PySem.W.Frag} {mg : Str → Option Value} {base : Heap} {CR CW : Addr} {f : Addr} {fd : FuncData}
theorem ok_answers (F : Fun K "answers" "answers" s_f_answers f fd) (TW : TxtW K CW) (TA' : TxtA K mg) (I : HasI P w K mg base CW "Watcher" 4 ["self"] (spWInit CW CR)) (C : HasF P w K mg base "answer_of" 8 ["watcher", "call", "numbers", "row"] (spAnswerOf CW CR)) :
    FnOk P w K mg base CX0 9 f fd ["calls"] (spAnswers K) := by
  obtain ⟨f1, fd1, m1, M1, G1, b1⟩ := I
  obtain ⟨f2, fd2, m2, kp2, G2, b2⟩ := C
  obtain ⟨tk7, c7⟩ := TA'.c7
  obtain ⟨pL, mL, lens⟩ := TA'.lens
  refine F.ok sc_f_answers (fun vs H Q E h => ?_) (fun cdv A outer s H vs Q E hr h => ?_)
  · obtain ⟨a, ns, rfl, _⟩ := h
    rfl
  · obtain ⟨a, ns, rfl, hS, hasked, q⟩ := h
    have r5 : Room 5 _ := hr.mono (by decide)
    have nd := sc_f_answers.nd
    refine ⟨_, pss_cons (ps_set (i := 1) nd rfl (Or.inl rfl) (pe_make0 M1 G1 r5 rfl m1 b1 .nil pass0))
      (pss_cons (ps_set (i := 2) nd rfl (Or.inl rfl) (pe_lst pa_nil))
      (pss_cons (ps_set (i := 3) nd rfl (Or.inl rfl) pe_int)
      (pss_cons (ps_while PassesOwn.never (pt_cmpR op_lt (pv 3) (pe_callB call_len_seq (by rfl) TA'.len PySem.boot_len (pa_cons (pv 0) pa_nil)) (nomark _))
        (pss_cons (ps_set (i := 4) nd rfl (Or.inl rfl) (pe_op op_add (pe_op op_add (pv 3) pe_int) (pe_ix ix_num (pe_glob (v := V.ref pL) rfl mL rfl) (pe_ix ix_list (pv 0) (pv 3) (fun _ _ => rfl)) (fun _ _ => rfl))))
        (pss_cons (ps_set (i := 5) nd rfl (Or.inl rfl) (pe_slice sl_list (pv 0) (po_some (pe_op op_add (pv 3) pe_int)) (po_some (pv 4))))
        (pss_cons (ps_set (i := 6) nd rfl (Or.inl rfl) (pe_lst pa_nil))
        (Evl.pss_cut (ps_if (pt_cmpR op_eq (pe_ix ix_list (pv 0) (pv 3) (fun _ _ => rfl)) (pe_glob (v := V.int 7) rfl c7 ⟨_, rfl⟩) (nomark _))
            (pss_cons (ps_set (i := 6) nd rfl (Or.inl rfl) (pe_slice sl_list (pv 0) (po_some (pe_op op_add (pv 4) pe_int)) (po_some (pe_op op_add (pe_op op_add (pv 4) pe_int) (pe_ix ix_list (pv 0) (pv 4) (fun _ _ => rfl))))))
            (pss_one (ps_set (i := 4) nd rfl (Or.inl rfl) (pe_op op_add (pe_op op_add (pv 4) pe_int) (pe_callB call_len_seq (by rfl) TA'.len PySem.boot_len (pa_cons (pv 6) pa_nil)))))) pss_nil)
        (pss_cons (ps_set (i := 7) nd rfl (Or.inl rfl) (pe_call G2 hr rfl m2 kp2 b2 .nil pass0 (pa_cons (pv 1) (pa_cons (pe_ix ix_list (pv 0) (pv 3) (fun _ _ => rfl)) (pa_cons (pv 5) (pa_cons (pv 6) pa_nil))))))
        (pss_cons (ps_expr (pe_bm PySem.F.plainAttrs_list PySem.F.slot_list_append PySem.F.type_list_append mt_append (pv 2) (pa_cons (pe_callB call_len_seq (by rfl) TA'.len PySem.boot_len (pa_cons (pv 7) pa_nil)) pa_nil)))
        (pss_cons (ps_expr (pe_bm PySem.F.plainAttrs_list PySem.F.slot_list_extend PySem.F.type_list_extend mt_extend (pv 2) (pa_cons (pv 7) pa_nil)))
        (pss_one (ps_set (i := 3) nd rfl (Or.inl rfl) (pv 4)))))))))))
      (pss_one (ps_ret (pv 2)))))), ?_⟩
    obtain ⟨cs0, parse0, all0, short, due⟩ := asked_parts hasked
    -- watcher = Watcher()
    intro wa wdx hwa hwdx nwd
    refine ⟨wa, wdx, rfl, upd_same, fun H1 R wat1 fresh kp => ⟨rfl, ?_⟩⟩
    have sI : Same H (upd (upd H wdx (.own wa)) wa (.ins CW wdx [])) := fun b o e => by
      rw [upd_ne (ne_of_none e hwa), upd_ne (ne_of_none e hwdx)]
      exact e
    have s1 : Same H H1 := fun b o e => kp b o (sI _ _ e) (ne_of_none e hwa)
    have free0 : ∀ b ∈ R.all, H b = none := fun b hb => same_free sI (fresh b hb)
    -- told = []
    refine ⟨Nat.zero_le _, fun tl htl => ?_⟩
    have s2 := s1.trans (same_new (o := .lst []) htl)
    have wat2 := wat1.same (same_new (o := .lst []) htl)
    have ntw : tl ≠ wa := by
      obtain ⟨⟨d, hw⟩, _⟩ := wat1
      exact (ne_of_none hw htl).symm
    have ntR : tl ∉ R.all := fun m => by
      obtain ⟨_, ⟨kn, lk, sh, _, _, _, ra⟩, _⟩ := wat1
      have := ra.no_tup
      unfold RA.all at m
      simp only [List.mem_cons, List.not_mem_nil, or_false] at m
      obtain ⟨_, h1, _⟩ := ra.ln
      obtain ⟨_, h2, _⟩ := ra.hd
      rcases m with w | w | w | w | w | w | w <;> rw [w] at htl
      · rw [ra.ins] at htl; cases htl
      · rw [h1] at htl; cases htl
      · rw [h2] at htl; cases htl
      · rw [ra.rm] at htl; cases htl
      · rw [ra.kn] at htl; cases htl
      · rw [ra.lk] at htl; cases htl
      · rw [ra.sh] at htl; cases htl
    have htl0 : H tl = none := same_free s1 htl
    refine while_by (Going CW CR H a wa tl ns) (fun σ _ => ns.length - posOf σ) ?_ ?_ ?_
    · exact ⟨0, none, none, none, none, [], Kg86.init, R, _, cs0, rfl, Nat.zero_le _, s2, upd_same, ntw, ntR, wat2, free0, parse0, all0, by rw [due]; rfl⟩
    · rintro σ H3 ⟨i, v4, v5, v6, v7, out, z, R3, fu, cs, rfl, hi, s3, ht3, nw3, nR3, wat3, free3, parse, all, dueE⟩
      have hS3 := s3.seq hS
      refine ⟨_, rfl, _, rfl, a, _, rfl, .inl hS3, (i : Int), _, rfl, rfl, _, rfl, ?_⟩
      rw [List.length_map]
      refine ite2 (fun c => ?_) (fun c => ?_)
      · -- a call more
        have hlt : i < ns.length := by
          have := of_decide_eq_true c
          omega
        obtain ⟨p, rest, hd⟩ : ∃ p rest, ns.drop i = p :: rest := ⟨ns[i], ns.drop (i + 1), List.drop_eq_getElem_cons hlt⟩
        obtain ⟨_, hp, hrest⟩ := drop_at hd
        rw [hd] at parse
        obtain ⟨fu', cc, cs', t, n, row, k, rfl, parse', nx⟩ := next_of parse all
        rw [due_cons nx.word] at dueE
        have all' : cs'.all Kg86Neutral.asked1 = true := by
          rw [List.all_cons, Bool.and_eq_true] at all
          exact all.2
        have rl : rest.length = ns.length - (i + 1) := by rw [← hrest, List.length_drop]
        have fits := nx.fits
        have at_ : ∀ H' : Hp, atI (ns.map V.int) (i : Int) = some (V.int p) := fun _ => by rw [ints_at hlt, hp]
        -- behind
        refine ⟨_, rfl, _, _, rfl, rfl, _, rfl, _, rfl, a, _, _, _, rfl, rfl, hS3, at_ H3, pL, p, nV n, rfl, rfl, lens p n nx.len, _, _, rfl, rfl, ?_⟩
        have eb : ((i : Int) + 1 + (n : Int)) = ((i + 1 + n : Nat) : Int) := by omega
        -- numbers
        refine ⟨_, rfl, _, rfl, _, _, rfl, rfl, _, rfl, _, rfl, _, rfl, a, _, rfl, hS3, fun nl hnl => ?_⟩
        have ecut : cutV (ns.map V.int) (some ((i : Int) + 1)) (some ((i : Int) + 1 + (n : Int))) = (rest.take n).map V.int := by
          have e1 : ((i : Int) + 1) = ((i + 1 : Nat) : Int) := by omega
          rw [eb, e1, cut_mid ns (i + 1) (i + 1 + n) (by omega) (by omega), hrest]
          congr 2
          omega
        have s4 := same_new (o := .lst (cutV (ns.map V.int) (some ((i : Int) + 1)) (some ((i : Int) + 1 + (n : Int))))) hnl
        have hnl4 : upd H3 nl (.lst (cutV (ns.map V.int) (some ((i : Int) + 1)) (some ((i : Int) + 1 + (n : Int))))) nl = some (.lst ((rest.take n).map V.int)) := by rw [upd_same, ecut]
        -- row = []
        refine ⟨Nat.zero_le _, fun rl0 hrl0 => ?_⟩
        have s5 := s4.trans (same_new (o := .lst []) hrl0)
        have hnl5 := (same_new (o := .lst []) hrl0) _ _ hnl4
        have hrl5 : upd (upd H3 nl (.lst (cutV (ns.map V.int) (some ((i : Int) + 1)) (some ((i : Int) + 1 + (n : Int)))))) rl0 (.lst []) rl0 = some (.lst []) := upd_same
        have hS5 := s5.seq hS3
        refine ⟨fun σ' H' => ∃ (j : Nat) (rl : Addr), σ' = [some (.ref a), some (.ref wa), some (.ref tl), some (.int (i : Int)), some (.int (j : Int)), some (.ref nl), some (.ref rl), v7] ∧ Same H3 H' ∧ H' nl = some (.lst ((rest.take n).map V.int)) ∧ H' rl = some (.lst (row.map V.int)) ∧
          i < j ∧ j ≤ ns.length ∧ t = ns.drop j, ?_, ?_⟩
        · refine ⟨_, rfl, _, rfl, a, _, _, _, rfl, rfl, hS5, at_ H3, rfl, _, rfl, ?_⟩
          by_cases c2 : p = 7
          · subst c2
            refine ite_yes ?_
            obtain ⟨m, hm0, hm1, hm2, hrow, ht⟩ := nx.show_ rfl
            have dl : (rest.drop n).length = rest.length - n := List.length_drop
            have n1 : 0 < (rest.drop n).length := by
              have := (List.getElem?_eq_some_iff.mp hm0).1
              exact this
            have hm : ns.getD (i + 1 + n) 0 = m := by
              rw [← hrest, List.drop_drop, List.getElem?_drop] at hm0
              rw [List.getD_eq_getElem?_getD]
              have : i + 1 + n + 0 = i + 1 + n := by omega
              rw [this] at hm0
              rw [hm0]
              rfl
            have rowlen : row.length = m.toNat := by
              rw [hrow, List.length_take, List.length_drop]
              omega
            have eL : V.int ((i : Int) + 1 + (n : Int)) = V.int ((i + 1 + n : Nat) : Int) := by rw [eb]
            have atm : atI (ns.map V.int) ((i : Int) + 1 + (n : Int)) = some (V.int m) := by
              rw [eb, ints_at (by omega), hm]
            refine ⟨_, rfl, _, rfl, _, _, rfl, rfl, _, rfl, _, rfl, _, _, rfl, rfl, _, rfl, _, rfl, a, _, _, _, rfl, rfl, hS5, atm, _, m, rfl, rfl, _, rfl, a, _, rfl, hS5, fun rl hrl => ?_⟩
            have ecut2 : cutV (ns.map V.int) (some ((i : Int) + 1 + (n : Int) + 1)) (some ((i : Int) + 1 + (n : Int) + 1 + m)) = row.map V.int := by
              have e1 : ((i : Int) + 1 + (n : Int) + 1) = ((i + 1 + n + 1 : Nat) : Int) := by omega
              have e2 : ((i : Int) + 1 + (n : Int) + 1 + m) = ((i + 1 + n + 1 + m.toNat : Nat) : Int) := by omega
              rw [e2, e1, cut_mid ns (i + 1 + n + 1) (i + 1 + n + 1 + m.toNat) (by omega) (by omega), hrow, ← hrest, List.drop_drop, List.drop_drop]
              congr 2
              omega
            refine ⟨_, rfl, _, _, rfl, rfl, _, rfl, rl, _, rfl, .inl (SqL.of upd_same), _, _, rfl, rfl, ?_⟩
            rw [ecut2, List.length_map, rowlen]
            have ej : ((i : Int) + 1 + (n : Int) + 1 + ((m.toNat : Nat) : Int)) = ((i + 1 + n + 1 + m.toNat : Nat) : Int) := by omega
            refine ⟨i + 1 + n + 1 + m.toNat, rl, ?_, s5.trans (same_new hrl), (same_new hrl) _ _ hnl5, by rw [upd_same], by omega, by omega, ?_⟩
            · rw [← ej]
              rfl
            · rw [ht, ← hrest, List.drop_drop, List.drop_drop, List.drop_drop]
              congr 1
              omega
          · refine ite_no c2 ?_
            obtain ⟨hrow, ht⟩ := nx.plain c2
            refine ⟨i + 1 + n, rl0, ?_, s5, hnl5, ?_, by omega, by omega, ?_⟩
            · rw [← eb]
              rfl
            · rw [hrow]
              exact hrl5
            · rw [ht, ← hrest, List.drop_drop]
        · rintro σ' H6 ⟨j, rl, rfl, s6, hnl6, hrl6, ij, jn, et⟩
          have hS6 := s6.seq hS3
          have wat6 := wat3.same s6
          have ht6 := s6 _ _ ht3
          have s06 := s3.trans s6
          refine ⟨_, rfl, _, rfl, _, rfl, a, _, _, _, rfl, rfl, hS6, at_ H3, _, rfl, _, rfl, wa, R3, z, p, nl, rl, rest.take n, row, k, rfl, wat6, hnl6, hrl6, nx.short, nx.call, fun H7 pa R7 fr wat7 hpa0 hpa => ?_⟩
          have ht7 : H7 tl = some (.lst (out.map V.int)) := fr.1 _ _ ht6 nw3 nR3
          have s07 : Same H H7 := fun b o e => fr.1 b o (s06 _ _ e) (ne_of_none e hwa) fun m => by
            rw [free3 b m] at e
            cases e
          have free7 : ∀ b ∈ R7.all, H b = none := fun b hb => by
            rcases fr.2 b hb with w | w
            · exact free3 b w
            · exact same_free s06 w
          have nR7 : tl ∉ R7.all := fun m => by
            rcases fr.2 tl m with w | w
            · exact nR3 w
            · rw [ht6] at w
              cases w
          have npt : pa ≠ tl := (ne_of_none ht6 hpa0).symm
          have hpl : (ansV (Kg86.spec z k).2).length = ((Kg86.spec z k).2.value :: (Kg86.spec z k).2.out).length := List.length_map _
          have total : out.length + (1 + ((Kg86.spec z k).2.value :: (Kg86.spec z k).2.out).length) ≤ 10000000 := by
            have := congrArg List.length dueE
            rw [List.length_append, List.length_append, List.length_cons] at this
            omega
          have sz : (10000000 : Nat) < sizeLine := by decide
          -- told.append(len(answer))
          refine ⟨_, rfl, .inl ⟨rfl, _, SqL.of ht7⟩, _, rfl, pa, _, rfl, .inl (SqL.of hpa), tl, _, _, rfl, rfl, ht7, by rw [List.length_map]; omega, ?_⟩
          rw [hpl]
          have wat8 := wat7.told (ys := out.map V.int ++ [V.int ((((Kg86.spec z k).2.value :: (Kg86.spec z k).2.out).length : Nat) : Int)]) ht7 nw3 nR7
          have hpa8 : upd H7 tl (.lst (out.map V.int ++ [V.int ((((Kg86.spec z k).2.value :: (Kg86.spec z k).2.out).length : Nat) : Int)])) pa = some (.lst (ansV (Kg86.spec z k).2)) := by
            rw [upd_ne npt]
            exact hpa
          have ht8 : upd H7 tl (.lst (out.map V.int ++ [V.int ((((Kg86.spec z k).2.value :: (Kg86.spec z k).2.out).length : Nat) : Int)])) tl = some (.lst (out.map V.int ++ [V.int ((((Kg86.spec z k).2.value :: (Kg86.spec z k).2.out).length : Nat) : Int)])) := upd_same
          have s08 : Same H (upd H7 tl (.lst (out.map V.int ++ [V.int ((((Kg86.spec z k).2.value :: (Kg86.spec z k).2.out).length : Nat) : Int)]))) := fun b o e => by
            rw [upd_ne (ne_of_none e htl0)]
            exact s07 _ _ e
          show tSeq _ _ _ _ (upd H7 tl (.lst (out.map V.int ++ [V.int ((((Kg86.spec z k).2.value :: (Kg86.spec z k).2.out).length : Nat) : Int)])))
          generalize upd H7 tl (.lst (out.map V.int ++ [V.int ((((Kg86.spec z k).2.value :: (Kg86.spec z k).2.out).length : Nat) : Int)])) = H8 at wat8 hpa8 ht8 s08 ⊢
          -- told.extend(answer)
          refine ⟨_, rfl, .inl ⟨rfl, _, SqL.of ht8⟩, _, rfl, tl, pa, _, _, rfl, rfl, ht8, hpa8, ?_, ?_⟩
          · rw [List.length_append, List.length_map, hpl]
            simp only [List.length_cons, List.length_nil]
            simp only [List.length_cons] at total
            omega
          have wat9 := wat8.told (ys := (out.map V.int ++ [V.int ((((Kg86.spec z k).2.value :: (Kg86.spec z k).2.out).length : Nat) : Int)]) ++ ansV (Kg86.spec z k).2) ht8 nw3 nR7
          refine ⟨_, rfl, ?_, ?_⟩
          · refine ⟨j, _, _, _, _, out ++ (((((Kg86.spec z k).2.value :: (Kg86.spec z k).2.out).length : Nat) : Int) :: ((Kg86.spec z k).2.value :: (Kg86.spec z k).2.out)), (Kg86.spec z k).1, R7, fu', cs', rfl, jn, fun b o e => ?_, ?_, nw3, nR7, wat9, free7, by rw [← et]; exact parse', all', ?_⟩
            · rw [upd_ne (ne_of_none e htl0)]
              exact s08 _ _ e
            · rw [upd_same]
              unfold ansV
              rw [List.map_append, List.map_cons, List.append_assoc]
              rfl
            · rw [List.append_assoc]
              exact dueE
          · show ns.length - ((j : Nat) : Int).toNat < ns.length - ((i : Nat) : Int).toNat
            omega
      · -- the end
        have hge : i = ns.length := by
          have : ¬ ((i : Int) < ((ns.length : Nat) : Int)) := fun z => c (decide_eq_true z)
          omega
        rw [hge, List.drop_length] at parse
        have ecs := calls_nil parse
        subst ecs
        have e0 : dueFrom z [] = [] := rfl
        rw [e0, List.append_nil] at dueE
        refine ⟨_, rfl, q H3 tl ?_⟩
        rw [← dueE]
        exact ht3
    · rintro σ H3 Q1 Q2 hQ ⟨v, hv, u, hu, p, ys, e1, e2, i, j, e3, e4, k, e5, q5⟩
      exact ⟨v, hv, u, hu, p, ys, e1, e2, i, j, e3, e4, k, e5, hQ _ _ q5⟩
end
end Dm
/-! ## DmGather -/
/-! What the top has written, gathered. -/
namespace Dm
open PySem PySem.Spec PyProof.Rows L2
def FnHere (K : PySem.W.Frag) (mg : Str → Option Value) (nm : Str) (st : Stmt) : Prop := ∃ (f : Addr) (fd : FuncData), mg nm = some (.ref f) ∧ Fun K nm nm st f fd
def MtHere (K : PySem.W.Frag) (C : Addr) (nm qual : Str) (st : Stmt) : Prop := ∃ (f : Addr) (fd : FuncData), Meth K C nm f ∧ Fun K nm qual st f fd
def InHere (K : PySem.W.Frag) (C : Addr) (qual : Str) (st : Stmt) : Prop := ∃ (f : Addr) (fd : FuncData), PySem.W.findIn K (.ref C) "__init__" = some (some (.ref f)) ∧ PySem.W.isFn K (.ref f) = true ∧ Fun K "__init__" qual st f fd
structure ClsHere (K : PySem.W.Frag) (C : Addr) : Prop where
  cl : Cls K C
  mks : PySem.W.makesIn K C = true
  kc : PySem.W.keepIn K (.ref C) = true
section
variable {K : PySem.W.Frag} {nm qual : Str} {st : Stmt} {f C : Addr} {od an : Option Addr} {sl : Array (Option Value)} {oc kV dc pm cd ct : Value}
theorem mt_here (a : PySem.W.findIn K (.ref C) nm = some (some (.ref f))) (i : PySem.W.isFn K (.ref f) = true) (l : K.lookup f = some ⟨oc, od, .func (PySem.W.fnOf nm qual (defArgs st) (defBody st) (defScope st) .none kV dc pm an cd ct), sl⟩) (c : PySem.W.codeIn K cd qual = true) (k : PySem.W.keepIn K (.ref f) = true) :
    MtHere K C nm qual st := ⟨f, _, ⟨a, i, k⟩, fun_mk l c k⟩
theorem in_here (a : PySem.W.findIn K (.ref C) "__init__" = some (some (.ref f))) (i : PySem.W.isFn K (.ref f) = true) (l : K.lookup f = some ⟨oc, od, .func (PySem.W.fnOf "__init__" qual (defArgs st) (defBody st) (defScope st) .none kV dc pm an cd ct), sl⟩) (c : PySem.W.codeIn K cd qual = true) (k : PySem.W.keepIn K (.ref f) = true) :
    InHere K C qual st := ⟨f, _, a, i, fun_mk l c k⟩
/-- a def of the module, by what is written of it -/
def FnWritten (K : PySem.W.Frag) (nm : Str) (st : Stmt) : Prop := ∃ (f : Addr) (fd : FuncData), PySem.W.nsIn K mainGlobals nm = some (some (.ref f)) ∧ Fun K nm nm st f fd
theorem fn_here (a : PySem.W.nsIn K mainGlobals nm = some (some (.ref f))) (l : K.lookup f = some ⟨oc, od, .func (PySem.W.fnOf nm nm (defArgs st) (defBody st) (defScope st) .none kV dc pm an cd ct), sl⟩) (c : PySem.W.codeIn K cd nm = true) (k : PySem.W.keepIn K (.ref f) = true) :
    FnWritten K nm st := ⟨f, _, a, fun_mk l c k⟩
theorem FnWritten.here {h : Heap} {mg : Str → Option Value} (F : FnWritten K nm st) (X : K.In h) (G : h.Ns mainGlobals mg) : FnHere K mg nm st := let ⟨f, fd, a, F⟩ := F; ⟨f, fd, PySem.W.mg_of X G a, F⟩
end
structure Facts (K : PySem.W.Frag) (mg : Str → Option Value) (CR CW : Addr) : Prop where
  h_count_deals : FnHere K mg "count_deals" s_f_count_deals
  h_count_by_place : FnHere K mg "count_by_place" s_f_count_by_place
  h_ways_by_room_left : FnHere K mg "ways_by_room_left" s_f_ways_by_room_left
  h_with_one_dealt : FnHere K mg "with_one_dealt" s_f_with_one_dealt
  h_all_tiles : FnHere K mg "all_tiles" s_f_all_tiles
  h_tile_of : FnHere K mg "tile_of" s_f_tile_of
  h_tiles_of : FnHere K mg "tiles_of" s_f_tiles_of
  h_other_number : FnHere K mg "other_number" s_f_other_number
  h_points_of : FnHere K mg "points_of" s_f_points_of
  h_begin_refusal : FnHere K mg "begin_refusal" s_f_begin_refusal
  h_answers : FnHere K mg "answers" s_f_answers
  h_answer_of : FnHere K mg "answer_of" s_f_answer_of
  h_r_init : InHere K CR "Round.__init__" s_r_init
  h_r_has_tile : MtHere K CR "has_tile" "Round.has_tile" s_r_has_tile
  h_r_has_place : MtHere K CR "has_place" "Round.has_place" s_r_has_place
  h_r_has_player : MtHere K CR "has_player" "Round.has_player" s_r_has_player
  h_r_is_over : MtHere K CR "is_over" "Round.is_over" s_r_is_over
  h_r_lies : MtHere K CR "lies" "Round.lies" s_r_lies
  h_r_ends : MtHere K CR "ends" "Round.ends" s_r_ends
  h_r_fits : MtHere K CR "fits" "Round.fits" s_r_fits
  h_r_stands : MtHere K CR "stands" "Round.stands" s_r_stands
  h_r_places_of : MtHere K CR "places_of" "Round.places_of" s_r_places_of
  h_r_is_lacking : MtHere K CR "is_lacking" "Round.is_lacking" s_r_is_lacking
  h_r_deals : MtHere K CR "deals" "Round.deals" s_r_deals
  h_r_deals_by_place : MtHere K CR "deals_by_place" "Round.deals_by_place" s_r_deals_by_place
  h_r_deals_with_hand : MtHere K CR "deals_with_hand" "Round.deals_with_hand" s_r_deals_with_hand
  h_r_deals_after_pass : MtHere K CR "deals_after_pass" "Round.deals_after_pass" s_r_deals_after_pass
  h_r_note_known : MtHere K CR "note_known" "Round.note_known" s_r_note_known
  h_r_note_hand : MtHere K CR "note_hand" "Round.note_hand" s_r_note_hand
  h_r_lay : MtHere K CR "lay" "Round.lay" s_r_lay
  h_r_note_pass : MtHere K CR "note_pass" "Round.note_pass" s_r_note_pass
  h_r_is_all_shown : MtHere K CR "is_all_shown" "Round.is_all_shown" s_r_is_all_shown
  h_r_counts : MtHere K CR "counts" "Round.counts" s_r_counts
  h_r_winner : MtHere K CR "winner" "Round.winner" s_r_winner
  h_r_end_turn : MtHere K CR "end_turn" "Round.end_turn" s_r_end_turn
  h_w_init : InHere K CW "Watcher.__init__" s_w_init
  h_w_begin : MtHere K CW "begin" "Watcher.begin" s_w_begin
  h_w_know : MtHere K CW "know" "Watcher.know" s_w_know
  h_w_know_refusal : MtHere K CW "know_refusal" "Watcher.know_refusal" s_w_know_refusal
  h_w_play : MtHere K CW "play" "Watcher.play" s_w_play
  h_w_play_refusal : MtHere K CW "play_refusal" "Watcher.play_refusal" s_w_play_refusal
  h_w_pass_by : MtHere K CW "pass_by" "Watcher.pass_by" s_w_pass_by
  h_w_pass_refusal : MtHere K CW "pass_refusal" "Watcher.pass_refusal" s_w_pass_refusal
  h_w_count_fitting : MtHere K CW "count_fitting" "Watcher.count_fitting" s_w_count_fitting
  h_w_has_round : MtHere K CW "has_round" "Watcher.has_round" s_w_has_round
  h_w_may : MtHere K CW "may" "Watcher.may" s_w_may
  h_w_may_refusal : MtHere K CW "may_refusal" "Watcher.may_refusal" s_w_may_refusal
  h_w_show : MtHere K CW "show" "Watcher.show" s_w_show
  h_w_show_refusal : MtHere K CW "show_refusal" "Watcher.show_refusal" s_w_show_refusal
  h_w_hand_refusal : MtHere K CW "hand_refusal" "Watcher.hand_refusal" s_w_hand_refusal
  h_w_score : MtHere K CW "score" "Watcher.score" s_w_score
  h_w_now : MtHere K CW "now" "Watcher.now" s_w_now
  h_w_tell_line : MtHere K CW "tell_line" "Watcher.tell_line" s_w_tell_line
  cR : ClsHere K CR
  cW : ClsHere K CW
  gR : mg "Round" = some (.ref CR)
  gW : mg "Watcher" = some (.ref CW)
  a_players : NoAttr K CR "players"
  a_greatest : NoAttr K CR "greatest"
  a_turn : NoAttr K CR "turn"
  a_line : NoAttr K CR "line"
  a_hidden : NoAttr K CR "hidden"
  a_room : NoAttr K CR "room"
  a_known : NoAttr K CR "known"
  a_lacks : NoAttr K CR "lacks"
  a_passes : NoAttr K CR "passes"
  a_shown : NoAttr K CR "shown"
  a_seen : NoAttr K CW "seen"
  z_len : mg "len" = none
  z_range : mg "range" = none
  z_min : mg "min" = none
  z_max : mg "max" = none
  z_sum : mg "sum" = none
  z_tuple : mg "tuple" = none
  z_int : mg "int" = none
  z_all : mg "all" = none
  z_any : mg "any" = none
  z_set : mg "set" = none
  k_LEFT : ∃ tk, mg "LEFT" = some (.int 0 tk)
  k_RIGHT : ∃ tk, mg "RIGHT" = some (.int 1 tk)
  k_MOST_STATES : ∃ tk, mg "MOST_STATES" = some (.int 4096 tk)
  k_BEGIN : ∃ tk, mg "BEGIN" = some (.int 1 tk)
  k_KNOW : ∃ tk, mg "KNOW" = some (.int 2 tk)
  k_PLAY : ∃ tk, mg "PLAY" = some (.int 3 tk)
  k_PASS : ∃ tk, mg "PASS" = some (.int 4 tk)
  k_DEALS : ∃ tk, mg "DEALS" = some (.int 5 tk)
  k_MAY : ∃ tk, mg "MAY" = some (.int 6 tk)
  k_SHOW : ∃ tk, mg "SHOW" = some (.int 7 tk)
  k_SCORE : ∃ tk, mg "SCORE" = some (.int 8 tk)
  k_NOW : ∃ tk, mg "NOW" = some (.int 9 tk)
  lens : ∃ pL, mg "LENGTHS" = some (.ref pL) ∧ ∀ (p : Int) (n : Nat), lenOf p = some n → KNum K pL p (nV n)
section
variable {P : Program} {w : World} {K : PySem.W.Frag} {mg : Str → Option Value} {base : Heap} {CR CW : Addr}
theorem all_ok (Z : Facts K mg CR CW) {fa : Addr} {fda : FuncData} (FA : Fun K "answers" "answers" s_f_answers fa fda) : FnOk P w K mg base CX0 9 fa fda ["calls"] (spAnswers K) := by
  have T : TxtR K mg CR := ⟨Z.cR.cl, Z.a_players, Z.a_greatest, Z.a_turn, Z.a_line, Z.a_hidden, Z.a_room, Z.a_known, Z.a_lacks, Z.a_passes, Z.a_shown, Z.z_len, Z.z_range⟩
  have TW : TxtW K CW := ⟨Z.cW.cl, Z.a_seen⟩
  have TT : TxtTiles mg := ⟨Z.z_range, Z.z_min, Z.z_max, Z.z_len, Z.z_sum⟩
  have TD : TxtDeals mg := ⟨Z.z_tuple, Z.z_sum, Z.z_len⟩
  have TL : TxtL mg := ⟨Z.k_LEFT⟩
  have TS' : TxtS mg := ⟨Z.k_LEFT, Z.k_RIGHT⟩
  have TB : TxtB mg := ⟨Z.k_MOST_STATES, Z.z_len, Z.z_range⟩
  have TH : TxtH mg := ⟨Z.z_all, Z.z_any, Z.z_set⟩
  have TI' : TxtI mg := ⟨Z.z_int, Z.z_sum⟩
  have TA' : TxtA K mg := ⟨Z.k_BEGIN, Z.k_KNOW, Z.k_PLAY, Z.k_PASS, Z.k_DEALS, Z.k_MAY, Z.k_SHOW, Z.k_SCORE, Z.k_NOW, Z.lens, Z.z_len⟩
  have F_with_one_dealt : HasF P w K mg base "with_one_dealt" 1 ["ways", "places"] (spOne P w K) := by
    obtain ⟨f, fd, m, F⟩ := Z.h_with_one_dealt
    exact ⟨f, fd, m, F.kp, ok_one F, F.binds (ps := ["ways", "places"]) fun _ _ _ _ _ _ us hl => match us, hl with | [_, _], _ => rfl⟩
  have F_ways_by_room_left : HasF P w K mg base "ways_by_room_left" 2 ["choices", "room"] (spWays P w) := by
    obtain ⟨f, fd, m, F⟩ := Z.h_ways_by_room_left
    exact ⟨f, fd, m, F.kp, ok_ways F TD F_with_one_dealt, F.binds (ps := ["choices", "room"]) fun _ _ _ _ _ _ us hl => match us, hl with | [_, _], _ => rfl⟩
  have F_count_deals : HasF P w K mg base "count_deals" 3 ["choices", "room"] (spCount K) := by
    obtain ⟨f, fd, m, F⟩ := Z.h_count_deals
    exact ⟨f, fd, m, F.kp, ok_count F TD F_ways_by_room_left, F.binds (ps := ["choices", "room"]) fun _ _ _ _ _ _ us hl => match us, hl with | [_, _], _ => rfl⟩
  have F_count_by_place : HasF P w K mg base "count_by_place" 3 ["others", "places", "room"] (spByPlace K) := by
    obtain ⟨f, fd, m, F⟩ := Z.h_count_by_place
    exact ⟨f, fd, m, F.kp, ok_by_place F TD F_ways_by_room_left, F.binds (ps := ["others", "places", "room"]) fun _ _ _ _ _ _ us hl => match us, hl with | [_, _, _], _ => rfl⟩
  have F_all_tiles : HasF P w K mg base "all_tiles" 1 ["greatest"] (spAll) := by
    obtain ⟨f, fd, m, F⟩ := Z.h_all_tiles
    exact ⟨f, fd, m, F.kp, ok_all F TT, F.binds (ps := ["greatest"]) fun _ _ _ _ _ _ us hl => match us, hl with | [_], _ => rfl⟩
  have F_tile_of : HasF P w K mg base "tile_of" 1 ["one", "other"] (spTileOf) := by
    obtain ⟨f, fd, m, F⟩ := Z.h_tile_of
    exact ⟨f, fd, m, F.kp, ok_tile_of F TT, F.binds (ps := ["one", "other"]) fun _ _ _ _ _ _ us hl => match us, hl with | [_, _], _ => rfl⟩
  have F_tiles_of : HasF P w K mg base "tiles_of" 2 ["numbers"] (spTilesOf K) := by
    obtain ⟨f, fd, m, F⟩ := Z.h_tiles_of
    exact ⟨f, fd, m, F.kp, ok_tiles_of F TT F_tile_of, F.binds (ps := ["numbers"]) fun _ _ _ _ _ _ us hl => match us, hl with | [_], _ => rfl⟩
  have F_other_number : HasF P w K mg base "other_number" 1 ["tile", "number"] (spOther K) := by
    obtain ⟨f, fd, m, F⟩ := Z.h_other_number
    exact ⟨f, fd, m, F.kp, ok_other F, F.binds (ps := ["tile", "number"]) fun _ _ _ _ _ _ us hl => match us, hl with | [_, _], _ => rfl⟩
  have F_points_of : HasF P w K mg base "points_of" 1 ["hand"] (spPoints K) := by
    obtain ⟨f, fd, m, F⟩ := Z.h_points_of
    exact ⟨f, fd, m, F.kp, ok_points F TT, F.binds (ps := ["hand"]) fun _ _ _ _ _ _ us hl => match us, hl with | [_], _ => rfl⟩
  have F_begin_refusal : HasF P w K mg base "begin_refusal" 2 ["players", "each", "greatest", "first"] (spBeginRef) := by
    obtain ⟨f, fd, m, F⟩ := Z.h_begin_refusal
    exact ⟨f, fd, m, F.kp, ok_begin_refusal F TB F_all_tiles, F.binds (ps := ["players", "each", "greatest", "first"]) fun _ _ _ _ _ _ us hl => match us, hl with | [_, _, _, _], _ => rfl⟩
  have M_r_has_tile : HasM P w K mg base CR "has_tile" 1 ["self", "tile"] (spHasTile CR) := by
    obtain ⟨f, fd, m, F⟩ := Z.h_r_has_tile
    exact ⟨f, fd, m, ok_has_tile F T, F.binds (ps := ["self", "tile"]) fun _ _ _ _ _ _ us hl => match us, hl with | [_, _], _ => rfl⟩
  have M_r_has_place : HasM P w K mg base CR "has_place" 1 ["self", "place"] (spHasPlace CR) := by
    obtain ⟨f, fd, m, F⟩ := Z.h_r_has_place
    exact ⟨f, fd, m, ok_has_place F T, F.binds (ps := ["self", "place"]) fun _ _ _ _ _ _ us hl => match us, hl with | [_, _], _ => rfl⟩
  have M_r_has_player : HasM P w K mg base CR "has_player" 1 ["self", "player"] (spHasPlayer CR) := by
    obtain ⟨f, fd, m, F⟩ := Z.h_r_has_player
    exact ⟨f, fd, m, ok_has_player F T, F.binds (ps := ["self", "player"]) fun _ _ _ _ _ _ us hl => match us, hl with | [_, _], _ => rfl⟩
  have M_r_is_over : HasM P w K mg base CR "is_over" 1 ["self"] (spIsOver CR) := by
    obtain ⟨f, fd, m, F⟩ := Z.h_r_is_over
    exact ⟨f, fd, m, ok_is_over F T, F.binds (ps := ["self"]) fun _ _ _ _ _ _ us hl => match us, hl with | [_], _ => rfl⟩
  have M_r_lies : HasM P w K mg base CR "lies" 1 ["self", "tile"] (spLies CR) := by
    obtain ⟨f, fd, m, F⟩ := Z.h_r_lies
    exact ⟨f, fd, m, ok_lies F T, F.binds (ps := ["self", "tile"]) fun _ _ _ _ _ _ us hl => match us, hl with | [_, _], _ => rfl⟩
  have M_r_ends : HasM P w K mg base CR "ends" 1 ["self"] (spEnds CR) := by
    obtain ⟨f, fd, m, F⟩ := Z.h_r_ends
    exact ⟨f, fd, m, ok_ends F T, F.binds (ps := ["self"]) fun _ _ _ _ _ _ us hl => match us, hl with | [_], _ => rfl⟩
  have M_r_fits : HasM P w K mg base CR "fits" 2 ["self", "tile", "side"] (spFits CR) := by
    obtain ⟨f, fd, m, F⟩ := Z.h_r_fits
    exact ⟨f, fd, m, ok_fits F T M_r_ends, F.binds (ps := ["self", "tile", "side"]) fun _ _ _ _ _ _ us hl => match us, hl with | [_, _, _], _ => rfl⟩
  have M_r_stands : HasM P w K mg base CR "stands" 2 ["self"] (spStands CR) := by
    obtain ⟨f, fd, m, F⟩ := Z.h_r_stands
    exact ⟨f, fd, m, ok_stands F T M_r_ends, F.binds (ps := ["self"]) fun _ _ _ _ _ _ us hl => match us, hl with | [_], _ => rfl⟩
  have M_r_is_lacking : HasM P w K mg base CR "is_lacking" 1 ["self", "place", "tile"] (spIsLacking CR) := by
    obtain ⟨f, fd, m, F⟩ := Z.h_r_is_lacking
    exact ⟨f, fd, m, ok_is_lacking F T, F.binds (ps := ["self", "place", "tile"]) fun _ _ _ _ _ _ us hl => match us, hl with | [_, _, _], _ => rfl⟩
  have M_r_places_of : HasM P w K mg base CR "places_of" 2 ["self", "tile"] (spPlacesOf CR) := by
    obtain ⟨f, fd, m, F⟩ := Z.h_r_places_of
    exact ⟨f, fd, m, ok_places_of F T M_r_is_lacking, F.binds (ps := ["self", "tile"]) fun _ _ _ _ _ _ us hl => match us, hl with | [_, _], _ => rfl⟩
  have M_r_deals : HasM P w K mg base CR "deals" 4 ["self"] (spDeals CR) := by
    obtain ⟨f, fd, m, F⟩ := Z.h_r_deals
    exact ⟨f, fd, m, ok_deals F T M_r_places_of F_count_deals, F.binds (ps := ["self"]) fun _ _ _ _ _ _ us hl => match us, hl with | [_], _ => rfl⟩
  have M_r_deals_by_place : HasM P w K mg base CR "deals_by_place" 4 ["self", "tile"] (spDealsBy CR) := by
    obtain ⟨f, fd, m, F⟩ := Z.h_r_deals_by_place
    exact ⟨f, fd, m, ok_deals_by F T M_r_places_of F_count_by_place, F.binds (ps := ["self", "tile"]) fun _ _ _ _ _ _ us hl => match us, hl with | [_, _], _ => rfl⟩
  have M_r_deals_with_hand : HasM P w K mg base CR "deals_with_hand" 4 ["self", "player", "hand"] (spDealsHand CR) := by
    obtain ⟨f, fd, m, F⟩ := Z.h_r_deals_with_hand
    exact ⟨f, fd, m, ok_deals_hand F T M_r_places_of F_count_deals, F.binds (ps := ["self", "player", "hand"]) fun _ _ _ _ _ _ us hl => match us, hl with | [_, _, _], _ => rfl⟩
  have M_r_deals_after_pass : HasM P w K mg base CR "deals_after_pass" 4 ["self"] (spDealsPass CR) := by
    obtain ⟨f, fd, m, F⟩ := Z.h_r_deals_after_pass
    exact ⟨f, fd, m, ok_deals_after_pass F T M_r_places_of M_r_ends F_count_deals, F.binds (ps := ["self"]) fun _ _ _ _ _ _ us hl => match us, hl with | [_], _ => rfl⟩
  have M_r_note_known : HasM P w K mg base CR "note_known" 1 ["self", "tile", "place"] (spNoteKnown CR) := by
    obtain ⟨f, fd, m, F⟩ := Z.h_r_note_known
    exact ⟨f, fd, m, ok_note_known F T, F.binds (ps := ["self", "tile", "place"]) fun _ _ _ _ _ _ us hl => match us, hl with | [_, _, _], _ => rfl⟩
  have M_r_note_hand : HasM P w K mg base CR "note_hand" 2 ["self", "player", "hand"] (spNoteHand CR) := by
    obtain ⟨f, fd, m, F⟩ := Z.h_r_note_hand
    exact ⟨f, fd, m, ok_note_hand F T M_r_note_known F_points_of, F.binds (ps := ["self", "player", "hand"]) fun _ _ _ _ _ _ us hl => match us, hl with | [_, _, _], _ => rfl⟩
  have M_r_end_turn : HasM P w K mg base CR "end_turn" 1 ["self", "over"] (spEndTurn CR) := by
    obtain ⟨f, fd, m, F⟩ := Z.h_r_end_turn
    exact ⟨f, fd, m, ok_end_turn F T, F.binds (ps := ["self", "over"]) fun _ _ _ _ _ _ us hl => match us, hl with | [_, _], _ => rfl⟩
  have M_r_lay : HasM P w K mg base CR "lay" 2 ["self", "tile", "side"] (spLay CR) := by
    obtain ⟨f, fd, m, F⟩ := Z.h_r_lay
    exact ⟨f, fd, m, ok_lay F T TL M_r_ends M_r_end_turn F_other_number, F.binds (ps := ["self", "tile", "side"]) fun _ _ _ _ _ _ us hl => match us, hl with | [_, _, _], _ => rfl⟩
  have M_r_note_pass : HasM P w K mg base CR "note_pass" 2 ["self"] (spNotePass CR) := by
    obtain ⟨f, fd, m, F⟩ := Z.h_r_note_pass
    exact ⟨f, fd, m, ok_note_pass F T M_r_ends M_r_end_turn, F.binds (ps := ["self"]) fun _ _ _ _ _ _ us hl => match us, hl with | [_], _ => rfl⟩
  have M_r_is_all_shown : HasM P w K mg base CR "is_all_shown" 1 ["self"] (spAllShown CR) := by
    obtain ⟨f, fd, m, F⟩ := Z.h_r_is_all_shown
    exact ⟨f, fd, m, ok_all_shown F T, F.binds (ps := ["self"]) fun _ _ _ _ _ _ us hl => match us, hl with | [_], _ => rfl⟩
  have M_r_counts : HasM P w K mg base CR "counts" 1 ["self"] (spCounts CR) := by
    obtain ⟨f, fd, m, F⟩ := Z.h_r_counts
    exact ⟨f, fd, m, ok_counts F T, F.binds (ps := ["self"]) fun _ _ _ _ _ _ us hl => match us, hl with | [_], _ => rfl⟩
  have M_r_winner : HasM P w K mg base CR "winner" 2 ["self"] (spWinner CR) := by
    obtain ⟨f, fd, m, F⟩ := Z.h_r_winner
    exact ⟨f, fd, m, ok_winner F T TT M_r_counts, F.binds (ps := ["self"]) fun _ _ _ _ _ _ us hl => match us, hl with | [_], _ => rfl⟩
  have I_r_init : HasI P w K mg base CR "Round" 2 ["self", "players", "each", "greatest", "first"] (spInit CR) := by
    obtain ⟨f, fd, a, i, F⟩ := Z.h_r_init
    exact ⟨f, fd, Z.gR, ⟨Z.cR.mks, a, i, Z.cR.kc⟩, ok_init F T F_all_tiles, F.binds (ps := ["self", "players", "each", "greatest", "first"]) fun _ _ _ _ _ _ us hl => match us, hl with | [_, _, _, _, _], _ => rfl⟩
  have I_w_init : HasI P w K mg base CW "Watcher" 4 ["self"] (spWInit CW CR) := by
    obtain ⟨f, fd, a, i, F⟩ := Z.h_w_init
    exact ⟨f, fd, Z.gW, ⟨Z.cW.mks, a, i, Z.cW.kc⟩, ok_w_init F TW I_r_init, F.binds (ps := ["self"]) fun _ _ _ _ _ _ us hl => match us, hl with | [_], _ => rfl⟩
  have M_w_begin : HasM P w K mg base CW "begin" 4 ["self", "players", "each", "greatest", "first"] (spBegin CW CR) := by
    obtain ⟨f, fd, m, F⟩ := Z.h_w_begin
    exact ⟨f, fd, m, ok_w_begin F TW T I_r_init F_begin_refusal, F.binds (ps := ["self", "players", "each", "greatest", "first"]) fun _ _ _ _ _ _ us hl => match us, hl with | [_, _, _, _, _], _ => rfl⟩
  have M_w_know_refusal : HasM P w K mg base CW "know_refusal" 5 ["self", "place", "tile"] (spKnowRef CW CR) := by
    obtain ⟨f, fd, m, F⟩ := Z.h_w_know_refusal
    exact ⟨f, fd, m, ok_know_refusal F TW T M_r_has_tile M_r_has_place M_r_is_over M_r_lies M_r_deals_by_place, F.binds (ps := ["self", "place", "tile"]) fun _ _ _ _ _ _ us hl => match us, hl with | [_, _, _], _ => rfl⟩
  have M_w_know : HasM P w K mg base CW "know" 6 ["self", "place", "one", "other"] (spKnow CW CR) := by
    obtain ⟨f, fd, m, F⟩ := Z.h_w_know
    exact ⟨f, fd, m, ok_w_know F TW T F_tile_of M_w_know_refusal M_r_note_known, F.binds (ps := ["self", "place", "one", "other"]) fun _ _ _ _ _ _ us hl => match us, hl with | [_, _, _, _], _ => rfl⟩
  have M_w_play_refusal : HasM P w K mg base CW "play_refusal" 5 ["self", "tile", "side"] (spPlayRef CW CR) := by
    obtain ⟨f, fd, m, F⟩ := Z.h_w_play_refusal
    exact ⟨f, fd, m, ok_play_refusal F TW T TS' M_r_has_tile M_r_is_over M_r_lies M_r_fits M_r_deals_by_place, F.binds (ps := ["self", "tile", "side"]) fun _ _ _ _ _ _ us hl => match us, hl with | [_, _, _], _ => rfl⟩
  have M_w_play : HasM P w K mg base CW "play" 6 ["self", "one", "other", "side"] (spPlay CW CR) := by
    obtain ⟨f, fd, m, F⟩ := Z.h_w_play
    exact ⟨f, fd, m, ok_w_play F TW T F_tile_of M_w_play_refusal M_r_lay M_r_stands, F.binds (ps := ["self", "one", "other", "side"]) fun _ _ _ _ _ _ us hl => match us, hl with | [_, _, _, _], _ => rfl⟩
  have M_w_pass_refusal : HasM P w K mg base CW "pass_refusal" 5 ["self"] (spPassRef CW CR) := by
    obtain ⟨f, fd, m, F⟩ := Z.h_w_pass_refusal
    exact ⟨f, fd, m, ok_pass_refusal F TW T M_r_is_over M_r_deals_after_pass, F.binds (ps := ["self"]) fun _ _ _ _ _ _ us hl => match us, hl with | [_], _ => rfl⟩
  have M_w_pass_by : HasM P w K mg base CW "pass_by" 6 ["self"] (spPassBy CW CR) := by
    obtain ⟨f, fd, m, F⟩ := Z.h_w_pass_by
    exact ⟨f, fd, m, ok_pass_by F TW T M_w_pass_refusal M_r_note_pass M_r_stands, F.binds (ps := ["self"]) fun _ _ _ _ _ _ us hl => match us, hl with | [_], _ => rfl⟩
  have M_w_has_round : HasM P w K mg base CW "has_round" 1 ["self"] (spHasRound CW CR) := by
    obtain ⟨f, fd, m, F⟩ := Z.h_w_has_round
    exact ⟨f, fd, m, ok_has_round F TW T, F.binds (ps := ["self"]) fun _ _ _ _ _ _ us hl => match us, hl with | [_], _ => rfl⟩
  have M_w_count_fitting : HasM P w K mg base CW "count_fitting" 5 ["self"] (spFitting CW CR) := by
    obtain ⟨f, fd, m, F⟩ := Z.h_w_count_fitting
    exact ⟨f, fd, m, ok_fitting F TW T M_w_has_round M_r_deals, F.binds (ps := ["self"]) fun _ _ _ _ _ _ us hl => match us, hl with | [_], _ => rfl⟩
  have M_w_may_refusal : HasM P w K mg base CW "may_refusal" 2 ["self", "tile"] (spMayRef CW CR) := by
    obtain ⟨f, fd, m, F⟩ := Z.h_w_may_refusal
    exact ⟨f, fd, m, ok_may_refusal F TW T M_w_has_round M_r_has_tile M_r_lies, F.binds (ps := ["self", "tile"]) fun _ _ _ _ _ _ us hl => match us, hl with | [_, _], _ => rfl⟩
  have M_w_may : HasM P w K mg base CW "may" 5 ["self", "one", "other"] (spMay CW CR) := by
    obtain ⟨f, fd, m, F⟩ := Z.h_w_may
    exact ⟨f, fd, m, ok_w_may F TW T F_tile_of M_w_may_refusal M_r_places_of M_r_deals_by_place, F.binds (ps := ["self", "one", "other"]) fun _ _ _ _ _ _ us hl => match us, hl with | [_, _, _], _ => rfl⟩
  have M_w_hand_refusal : HasM P w K mg base CW "hand_refusal" 5 ["self", "player", "hand"] (spHandRef CW CR) := by
    obtain ⟨f, fd, m, F⟩ := Z.h_w_hand_refusal
    exact ⟨f, fd, m, ok_hand_refusal F TW T TH M_r_has_tile M_r_lies M_r_deals_with_hand, F.binds (ps := ["self", "player", "hand"]) fun _ _ _ _ _ _ us hl => match us, hl with | [_, _, _], _ => rfl⟩
  have M_w_show_refusal : HasM P w K mg base CW "show_refusal" 6 ["self", "player", "numbers"] (spShowRef CW CR K) := by
    obtain ⟨f, fd, m, F⟩ := Z.h_w_show_refusal
    exact ⟨f, fd, m, ok_show_refusal F TW T M_r_has_player M_r_is_over F_tiles_of M_w_hand_refusal, F.binds (ps := ["self", "player", "numbers"]) fun _ _ _ _ _ _ us hl => match us, hl with | [_, _, _], _ => rfl⟩
  have M_w_show : HasM P w K mg base CW "show" 7 ["self", "player", "numbers"] (spShow CW CR K) := by
    obtain ⟨f, fd, m, F⟩ := Z.h_w_show
    exact ⟨f, fd, m, ok_w_show F TW T F_tiles_of F_points_of M_w_show_refusal M_r_note_hand, F.binds (ps := ["self", "player", "numbers"]) fun _ _ _ _ _ _ us hl => match us, hl with | [_, _, _], _ => rfl⟩
  have M_w_score : HasM P w K mg base CW "score" 3 ["self"] (spScore CW CR) := by
    obtain ⟨f, fd, m, F⟩ := Z.h_w_score
    exact ⟨f, fd, m, ok_w_score F TW T TI' M_w_has_round M_r_is_over M_r_is_all_shown M_r_counts M_r_winner, F.binds (ps := ["self"]) fun _ _ _ _ _ _ us hl => match us, hl with | [_], _ => rfl⟩
  have M_w_now : HasM P w K mg base CW "now" 3 ["self"] (spNow CW CR) := by
    obtain ⟨f, fd, m, F⟩ := Z.h_w_now
    exact ⟨f, fd, m, ok_w_now F TW T TI' M_r_is_over M_r_stands, F.binds (ps := ["self"]) fun _ _ _ _ _ _ us hl => match us, hl with | [_], _ => rfl⟩
  have M_w_tell_line : HasM P w K mg base CW "tell_line" 1 ["self"] (spLine CW CR) := by
    obtain ⟨f, fd, m, F⟩ := Z.h_w_tell_line
    exact ⟨f, fd, m, ok_w_line F TW T, F.binds (ps := ["self"]) fun _ _ _ _ _ _ us hl => match us, hl with | [_], _ => rfl⟩
  have F_answer_of : HasF P w K mg base "answer_of" 8 ["watcher", "call", "numbers", "row"] (spAnswerOf CW CR) := by
    obtain ⟨f, fd, m, F⟩ := Z.h_answer_of
    exact ⟨f, fd, m, F.kp, ok_answer_of F TW TA' M_w_begin M_w_know M_w_play M_w_pass_by M_w_count_fitting M_w_may M_w_show M_w_score M_w_now M_w_tell_line, F.binds (ps := ["watcher", "call", "numbers", "row"]) fun _ _ _ _ _ _ us hl => match us, hl with | [_, _, _, _], _ => rfl⟩
  exact ok_answers FA TW TA' I_w_init F_answer_of
end
theorem lens_here {K : PySem.W.Frag} {pL : Addr} {es : Array DictEntry} {n : Nat} (l : K.lookup pL = some ⟨.type "dict", none, .dict es n, #[]⟩) (hk : numKeys es = true)
    (l1 : ∃ t, findBy Value.isInt es 1 = some (Value.int 4 t)) (l2 : ∃ t, findBy Value.isInt es 2 = some (Value.int 3 t)) (l3 : ∃ t, findBy Value.isInt es 3 = some (Value.int 3 t)) (l4 : ∃ t, findBy Value.isInt es 4 = some (Value.int 0 t)) (l5 : ∃ t, findBy Value.isInt es 5 = some (Value.int 0 t)) (l6 : ∃ t, findBy Value.isInt es 6 = some (Value.int 2 t)) (l7 : ∃ t, findBy Value.isInt es 7 = some (Value.int 1 t)) (l8 : ∃ t, findBy Value.isInt es 8 = some (Value.int 0 t)) (l9 : ∃ t, findBy Value.isInt es 9 = some (Value.int 0 t)) (l10 : ∃ t, findBy Value.isInt es 10 = some (Value.int 0 t)) (p : Int) (m : Nat) (h : lenOf p = some m) : KNum K pL p (nV m) := by
  have fin : ∀ (j : Int) (x : Nat), (∃ t, findBy Value.isInt es j = some (Value.int (x : Int) t)) → KNum K pL j (nV x) := fun j x ⟨t, e⟩ => ⟨es, n, _, l, hk, e, ⟨t, rfl⟩⟩
  unfold lenOf at h
  by_cases c1 : p = 1
  · subst c1
    cases h
    exact fin _ _ l1
  by_cases c2 : p = 2
  · subst c2
    cases h
    exact fin _ _ l2
  by_cases c3 : p = 3
  · subst c3
    cases h
    exact fin _ _ l3
  by_cases c4 : p = 4
  · subst c4
    cases h
    exact fin _ _ l4
  by_cases c5 : p = 5
  · subst c5
    cases h
    exact fin _ _ l5
  by_cases c6 : p = 6
  · subst c6
    cases h
    exact fin _ _ l6
  by_cases c7 : p = 7
  · subst c7
    cases h
    exact fin _ _ l7
  by_cases c8 : p = 8
  · subst c8
    cases h
    exact fin _ _ l8
  by_cases c9 : p = 9
  · subst c9
    cases h
    exact fin _ _ l9
  by_cases c10 : p = 10
  · subst c10
    cases h
    exact fin _ _ l10
  rw [if_neg c1, if_neg c2, if_neg c3, if_neg c4, if_neg c5, if_neg c6, if_neg c7, if_neg c8, if_neg c9, if_neg c10] at h
  cases h
end Dm
/-! ## DmEnd0 -/
namespace Dm
open PySem PySem.Spec PyProof.Rows L2
theorem facts_mk {P : Program} {w : World} {K : PySem.W.Frag} {h : Heap} {mg : Str → Option Value} {fa CR CW pL : Addr} {es : Array DictEntry} {n : Nat} {t_LEFT : Tok} {t_RIGHT : Tok} {t_MOST_STATES : Tok} {t_BEGIN : Tok} {t_KNOW : Tok} {t_PLAY : Tok} {t_PASS : Tok} {t_DEALS : Tok} {t_MAY : Tok} {t_SHOW : Tok} {t_SCORE : Tok} {t_NOW : Tok} (X : K.In h) (G : h.Ns mainGlobals mg) (hfa : mg "answers" = some (.ref fa))
    (gR : PySem.W.nsIn K mainGlobals "Round" = some (some (.ref CR))) (gW : PySem.W.nsIn K mainGlobals "Watcher" = some (some (.ref CW)))
    (pgR : PySem.W.plainGet K CR Str.empty = true) (hdR : PySem.W.hasDictIn K CR = true) (poR : PySem.W.plainOver K CR = true) (saR : PySem.W.findIn K (.ref CR) "__setattr__" = some (some (.builtin "object.__setattr__"))) (mkR : PySem.W.makesIn K CR = true) (kcR : PySem.W.keepIn K (.ref CR) = true)
    (pgW : PySem.W.plainGet K CW Str.empty = true) (hdW : PySem.W.hasDictIn K CW = true) (poW : PySem.W.plainOver K CW = true) (saW : PySem.W.findIn K (.ref CW) "__setattr__" = some (some (.builtin "object.__setattr__"))) (mkW : PySem.W.makesIn K CW = true) (kcW : PySem.W.keepIn K (.ref CW) = true)
    (a_players : PySem.W.findIn K (.ref CR) "players" = some none)
    (a_greatest : PySem.W.findIn K (.ref CR) "greatest" = some none)
    (a_turn : PySem.W.findIn K (.ref CR) "turn" = some none)
    (a_line : PySem.W.findIn K (.ref CR) "line" = some none)
    (a_hidden : PySem.W.findIn K (.ref CR) "hidden" = some none)
    (a_room : PySem.W.findIn K (.ref CR) "room" = some none)
    (a_known : PySem.W.findIn K (.ref CR) "known" = some none)
    (a_lacks : PySem.W.findIn K (.ref CR) "lacks" = some none)
    (a_passes : PySem.W.findIn K (.ref CR) "passes" = some none)
    (a_shown : PySem.W.findIn K (.ref CR) "shown" = some none)
    (a_seen : PySem.W.findIn K (.ref CW) "seen" = some none)
    (z_len : PySem.W.nsIn K mainGlobals "len" = some none)
    (z_range : PySem.W.nsIn K mainGlobals "range" = some none)
    (z_min : PySem.W.nsIn K mainGlobals "min" = some none)
    (z_max : PySem.W.nsIn K mainGlobals "max" = some none)
    (z_sum : PySem.W.nsIn K mainGlobals "sum" = some none)
    (z_tuple : PySem.W.nsIn K mainGlobals "tuple" = some none)
    (z_int : PySem.W.nsIn K mainGlobals "int" = some none)
    (z_all : PySem.W.nsIn K mainGlobals "all" = some none)
    (z_any : PySem.W.nsIn K mainGlobals "any" = some none)
    (z_set : PySem.W.nsIn K mainGlobals "set" = some none)
    (k_LEFT : PySem.W.nsIn K mainGlobals "LEFT" = some (some (.int 0 t_LEFT)))
    (k_RIGHT : PySem.W.nsIn K mainGlobals "RIGHT" = some (some (.int 1 t_RIGHT)))
    (k_MOST_STATES : PySem.W.nsIn K mainGlobals "MOST_STATES" = some (some (.int 4096 t_MOST_STATES)))
    (k_BEGIN : PySem.W.nsIn K mainGlobals "BEGIN" = some (some (.int 1 t_BEGIN)))
    (k_KNOW : PySem.W.nsIn K mainGlobals "KNOW" = some (some (.int 2 t_KNOW)))
    (k_PLAY : PySem.W.nsIn K mainGlobals "PLAY" = some (some (.int 3 t_PLAY)))
    (k_PASS : PySem.W.nsIn K mainGlobals "PASS" = some (some (.int 4 t_PASS)))
    (k_DEALS : PySem.W.nsIn K mainGlobals "DEALS" = some (some (.int 5 t_DEALS)))
    (k_MAY : PySem.W.nsIn K mainGlobals "MAY" = some (some (.int 6 t_MAY)))
    (k_SHOW : PySem.W.nsIn K mainGlobals "SHOW" = some (some (.int 7 t_SHOW)))
    (k_SCORE : PySem.W.nsIn K mainGlobals "SCORE" = some (some (.int 8 t_SCORE)))
    (k_NOW : PySem.W.nsIn K mainGlobals "NOW" = some (some (.int 9 t_NOW)))
    (gL : PySem.W.nsIn K mainGlobals "LENGTHS" = some (some (.ref pL))) (lL : K.lookup pL = some ⟨.type "dict", none, .dict es n, #[]⟩) (hk : numKeys es = true)
    (l1 : ∃ t, findBy Value.isInt es 1 = some (Value.int 4 t))
    (l2 : ∃ t, findBy Value.isInt es 2 = some (Value.int 3 t))
    (l3 : ∃ t, findBy Value.isInt es 3 = some (Value.int 3 t))
    (l4 : ∃ t, findBy Value.isInt es 4 = some (Value.int 0 t))
    (l5 : ∃ t, findBy Value.isInt es 5 = some (Value.int 0 t))
    (l6 : ∃ t, findBy Value.isInt es 6 = some (Value.int 2 t))
    (l7 : ∃ t, findBy Value.isInt es 7 = some (Value.int 1 t))
    (l8 : ∃ t, findBy Value.isInt es 8 = some (Value.int 0 t))
    (l9 : ∃ t, findBy Value.isInt es 9 = some (Value.int 0 t))
    (l10 : ∃ t, findBy Value.isInt es 10 = some (Value.int 0 t))
    (h_count_deals : FnWritten K "count_deals" s_f_count_deals)
    (h_count_by_place : FnWritten K "count_by_place" s_f_count_by_place)
    (h_ways_by_room_left : FnWritten K "ways_by_room_left" s_f_ways_by_room_left)
    (h_with_one_dealt : FnWritten K "with_one_dealt" s_f_with_one_dealt)
    (h_all_tiles : FnWritten K "all_tiles" s_f_all_tiles)
    (h_tile_of : FnWritten K "tile_of" s_f_tile_of)
    (h_tiles_of : FnWritten K "tiles_of" s_f_tiles_of)
    (h_other_number : FnWritten K "other_number" s_f_other_number)
    (h_points_of : FnWritten K "points_of" s_f_points_of)
    (h_begin_refusal : FnWritten K "begin_refusal" s_f_begin_refusal)
    (h_answers : FnWritten K "answers" s_f_answers)
    (h_answer_of : FnWritten K "answer_of" s_f_answer_of)
    (h_r_init : InHere K CR "Round.__init__" s_r_init)
    (h_r_has_tile : MtHere K CR "has_tile" "Round.has_tile" s_r_has_tile)
    (h_r_has_place : MtHere K CR "has_place" "Round.has_place" s_r_has_place)
    (h_r_has_player : MtHere K CR "has_player" "Round.has_player" s_r_has_player)
    (h_r_is_over : MtHere K CR "is_over" "Round.is_over" s_r_is_over)
    (h_r_lies : MtHere K CR "lies" "Round.lies" s_r_lies)
    (h_r_ends : MtHere K CR "ends" "Round.ends" s_r_ends)
    (h_r_fits : MtHere K CR "fits" "Round.fits" s_r_fits)
    (h_r_stands : MtHere K CR "stands" "Round.stands" s_r_stands)
    (h_r_places_of : MtHere K CR "places_of" "Round.places_of" s_r_places_of)
    (h_r_is_lacking : MtHere K CR "is_lacking" "Round.is_lacking" s_r_is_lacking)
    (h_r_deals : MtHere K CR "deals" "Round.deals" s_r_deals)
    (h_r_deals_by_place : MtHere K CR "deals_by_place" "Round.deals_by_place" s_r_deals_by_place)
    (h_r_deals_with_hand : MtHere K CR "deals_with_hand" "Round.deals_with_hand" s_r_deals_with_hand)
    (h_r_deals_after_pass : MtHere K CR "deals_after_pass" "Round.deals_after_pass" s_r_deals_after_pass)
    (h_r_note_known : MtHere K CR "note_known" "Round.note_known" s_r_note_known)
    (h_r_note_hand : MtHere K CR "note_hand" "Round.note_hand" s_r_note_hand)
    (h_r_lay : MtHere K CR "lay" "Round.lay" s_r_lay)
    (h_r_note_pass : MtHere K CR "note_pass" "Round.note_pass" s_r_note_pass)
    (h_r_is_all_shown : MtHere K CR "is_all_shown" "Round.is_all_shown" s_r_is_all_shown)
    (h_r_counts : MtHere K CR "counts" "Round.counts" s_r_counts)
    (h_r_winner : MtHere K CR "winner" "Round.winner" s_r_winner)
    (h_r_end_turn : MtHere K CR "end_turn" "Round.end_turn" s_r_end_turn)
    (h_w_init : InHere K CW "Watcher.__init__" s_w_init)
    (h_w_begin : MtHere K CW "begin" "Watcher.begin" s_w_begin)
    (h_w_know : MtHere K CW "know" "Watcher.know" s_w_know)
    (h_w_know_refusal : MtHere K CW "know_refusal" "Watcher.know_refusal" s_w_know_refusal)
    (h_w_play : MtHere K CW "play" "Watcher.play" s_w_play)
    (h_w_play_refusal : MtHere K CW "play_refusal" "Watcher.play_refusal" s_w_play_refusal)
    (h_w_pass_by : MtHere K CW "pass_by" "Watcher.pass_by" s_w_pass_by)
    (h_w_pass_refusal : MtHere K CW "pass_refusal" "Watcher.pass_refusal" s_w_pass_refusal)
    (h_w_count_fitting : MtHere K CW "count_fitting" "Watcher.count_fitting" s_w_count_fitting)
    (h_w_has_round : MtHere K CW "has_round" "Watcher.has_round" s_w_has_round)
    (h_w_may : MtHere K CW "may" "Watcher.may" s_w_may)
    (h_w_may_refusal : MtHere K CW "may_refusal" "Watcher.may_refusal" s_w_may_refusal)
    (h_w_show : MtHere K CW "show" "Watcher.show" s_w_show)
    (h_w_show_refusal : MtHere K CW "show_refusal" "Watcher.show_refusal" s_w_show_refusal)
    (h_w_hand_refusal : MtHere K CW "hand_refusal" "Watcher.hand_refusal" s_w_hand_refusal)
    (h_w_score : MtHere K CW "score" "Watcher.score" s_w_score)
    (h_w_now : MtHere K CW "now" "Watcher.now" s_w_now)
    (h_w_tell_line : MtHere K CW "tell_line" "Watcher.tell_line" s_w_tell_line)
    : ∃ fd : FuncData, (∀ (s : Shared) (us : List Value), us.length = (["calls"] : List Str).length → BindsTo s fd ⟨us, []⟩ ((["calls"] : List Str).zip us)) ∧ ∀ base : Heap, K.In base → base.Ns mainGlobals mg → FnOk P w K mg base CX0 9 fa fd ["calls"] (spAnswers K) := by
  have Z : Facts K mg CR CW := ⟨h_count_deals.here X G, h_count_by_place.here X G, h_ways_by_room_left.here X G, h_with_one_dealt.here X G, h_all_tiles.here X G, h_tile_of.here X G, h_tiles_of.here X G, h_other_number.here X G, h_points_of.here X G, h_begin_refusal.here X G, h_answers.here X G, h_answer_of.here X G, h_r_init, h_r_has_tile, h_r_has_place, h_r_has_player, h_r_is_over, h_r_lies, h_r_ends, h_r_fits, h_r_stands, h_r_places_of, h_r_is_lacking, h_r_deals, h_r_deals_by_place, h_r_deals_with_hand, h_r_deals_after_pass, h_r_note_known, h_r_note_hand, h_r_lay, h_r_note_pass, h_r_is_all_shown, h_r_counts, h_r_winner, h_r_end_turn, h_w_init, h_w_begin, h_w_know, h_w_know_refusal, h_w_play, h_w_play_refusal, h_w_pass_by, h_w_pass_refusal, h_w_count_fitting, h_w_has_round, h_w_may, h_w_may_refusal, h_w_show, h_w_show_refusal, h_w_hand_refusal, h_w_score, h_w_now, h_w_tell_line, ⟨⟨pgR, hdR, poR, saR⟩, mkR, kcR⟩, ⟨⟨pgW, hdW, poW, saW⟩, mkW, kcW⟩, PySem.W.mg_of X G gR, PySem.W.mg_of X G gW, a_players, a_greatest, a_turn, a_line, a_hidden, a_room, a_known, a_lacks, a_passes, a_shown, a_seen, PySem.W.mg_none_of X G z_len, PySem.W.mg_none_of X G z_range, PySem.W.mg_none_of X G z_min, PySem.W.mg_none_of X G z_max, PySem.W.mg_none_of X G z_sum, PySem.W.mg_none_of X G z_tuple, PySem.W.mg_none_of X G z_int, PySem.W.mg_none_of X G z_all, PySem.W.mg_none_of X G z_any, PySem.W.mg_none_of X G z_set, ⟨_, PySem.W.mg_of X G k_LEFT⟩, ⟨_, PySem.W.mg_of X G k_RIGHT⟩, ⟨_, PySem.W.mg_of X G k_MOST_STATES⟩, ⟨_, PySem.W.mg_of X G k_BEGIN⟩, ⟨_, PySem.W.mg_of X G k_KNOW⟩, ⟨_, PySem.W.mg_of X G k_PLAY⟩, ⟨_, PySem.W.mg_of X G k_PASS⟩, ⟨_, PySem.W.mg_of X G k_DEALS⟩, ⟨_, PySem.W.mg_of X G k_MAY⟩, ⟨_, PySem.W.mg_of X G k_SHOW⟩, ⟨_, PySem.W.mg_of X G k_SCORE⟩, ⟨_, PySem.W.mg_of X G k_NOW⟩, ⟨pL, PySem.W.mg_of X G gL, lens_here lL hk l1 l2 l3 l4 l5 l6 l7 l8 l9 l10⟩⟩
  obtain ⟨f, fd, m, F⟩ := Z.h_answers
  have e : f = fa := by
    have := m.symm.trans hfa
    injection this with this
    injection this
  subst e
  have b : Binds K fd ["calls"] [] := F.binds (ps := ["calls"]) fun _ _ _ _ _ _ us hl => match us, hl with | [_], _ => rfl
  refine ⟨fd, ?_, fun base _ _ => ?_⟩
  · obtain ⟨oc, od, kV, doc, pm, an, cdv, ct, osl, rfl, lk, hcd⟩ := F.ex
    exact fun s us hu => match us, hu with | [_], _ => .of_eq rfl
  · exact all_ok Z F
end Dm
/-! ## DmEnd -/
open PySem PySem.W PyProof.Rows
set_option maxRecDepth 100000 in
set_option maxHeartbeats 80000000 in
theorem PySem.Challenge.cw_dominotable_s01_answers_holds : PySem.Challenge.rw_dominotable_s01_answers.Holds := by
  w_on; k_headS; (case hw => exact ⟨[.list [.int 4]], by decide +kernel, by decide +kernel⟩)
  k_fillS
  refine L2.walk_specK (r := PySem.Challenge.rw_dominotable_s01_answers) (k := 9) (CX := L2.CX0) (ps := ["calls"]) (sp := Dm.spAnswers) (by decide +kernel) rfl rfl ⟨rfl, by decide, by decide⟩ (fun w h Y => PySem.W.kIn_of Y) ?F ?S (fun _ _ _ _ z => z)
  case F =>
    intro w mg fa h Y KX G hmg
    refine' Dm.facts_mk KX G hmg ?gR ?gW ?pgR ?hdR ?poR ?saR ?mkR ?kcR ?pgW ?hdW ?poW ?saW ?mkW ?kcW ?a_players ?a_greatest ?a_turn ?a_line ?a_hidden ?a_room ?a_known ?a_lacks ?a_passes ?a_shown ?a_seen ?z_len ?z_range ?z_min ?z_max ?z_sum ?z_tuple ?z_int ?z_all ?z_any ?z_set ?k_LEFT ?k_RIGHT ?k_MOST_STATES ?k_BEGIN ?k_KNOW ?k_PLAY ?k_PASS ?k_DEALS ?k_MAY ?k_SHOW ?k_SCORE ?k_NOW ?gL ?lL ?hk ?l1 ?l2 ?l3 ?l4 ?l5 ?l6 ?l7 ?l8 ?l9 ?l10 (Dm.fn_here ?a_f_count_deals ?l_f_count_deals ?c_f_count_deals ?k_f_count_deals) (Dm.fn_here ?a_f_count_by_place ?l_f_count_by_place ?c_f_count_by_place ?k_f_count_by_place) (Dm.fn_here ?a_f_ways_by_room_left ?l_f_ways_by_room_left ?c_f_ways_by_room_left ?k_f_ways_by_room_left) (Dm.fn_here ?a_f_with_one_dealt ?l_f_with_one_dealt ?c_f_with_one_dealt ?k_f_with_one_dealt) (Dm.fn_here ?a_f_all_tiles ?l_f_all_tiles ?c_f_all_tiles ?k_f_all_tiles) (Dm.fn_here ?a_f_tile_of ?l_f_tile_of ?c_f_tile_of ?k_f_tile_of) (Dm.fn_here ?a_f_tiles_of ?l_f_tiles_of ?c_f_tiles_of ?k_f_tiles_of) (Dm.fn_here ?a_f_other_number ?l_f_other_number ?c_f_other_number ?k_f_other_number) (Dm.fn_here ?a_f_points_of ?l_f_points_of ?c_f_points_of ?k_f_points_of) (Dm.fn_here ?a_f_begin_refusal ?l_f_begin_refusal ?c_f_begin_refusal ?k_f_begin_refusal) (Dm.fn_here ?a_f_answers ?l_f_answers ?c_f_answers ?k_f_answers) (Dm.fn_here ?a_f_answer_of ?l_f_answer_of ?c_f_answer_of ?k_f_answer_of) (Dm.in_here ?a_r_init ?i_r_init ?l_r_init ?c_r_init ?k_r_init) (Dm.mt_here ?a_r_has_tile ?i_r_has_tile ?l_r_has_tile ?c_r_has_tile ?k_r_has_tile) (Dm.mt_here ?a_r_has_place ?i_r_has_place ?l_r_has_place ?c_r_has_place ?k_r_has_place) (Dm.mt_here ?a_r_has_player ?i_r_has_player ?l_r_has_player ?c_r_has_player ?k_r_has_player) (Dm.mt_here ?a_r_is_over ?i_r_is_over ?l_r_is_over ?c_r_is_over ?k_r_is_over) (Dm.mt_here ?a_r_lies ?i_r_lies ?l_r_lies ?c_r_lies ?k_r_lies) (Dm.mt_here ?a_r_ends ?i_r_ends ?l_r_ends ?c_r_ends ?k_r_ends) (Dm.mt_here ?a_r_fits ?i_r_fits ?l_r_fits ?c_r_fits ?k_r_fits) (Dm.mt_here ?a_r_stands ?i_r_stands ?l_r_stands ?c_r_stands ?k_r_stands) (Dm.mt_here ?a_r_places_of ?i_r_places_of ?l_r_places_of ?c_r_places_of ?k_r_places_of) (Dm.mt_here ?a_r_is_lacking ?i_r_is_lacking ?l_r_is_lacking ?c_r_is_lacking ?k_r_is_lacking) (Dm.mt_here ?a_r_deals ?i_r_deals ?l_r_deals ?c_r_deals ?k_r_deals) (Dm.mt_here ?a_r_deals_by_place ?i_r_deals_by_place ?l_r_deals_by_place ?c_r_deals_by_place ?k_r_deals_by_place) (Dm.mt_here ?a_r_deals_with_hand ?i_r_deals_with_hand ?l_r_deals_with_hand ?c_r_deals_with_hand ?k_r_deals_with_hand) (Dm.mt_here ?a_r_deals_after_pass ?i_r_deals_after_pass ?l_r_deals_after_pass ?c_r_deals_after_pass ?k_r_deals_after_pass) (Dm.mt_here ?a_r_note_known ?i_r_note_known ?l_r_note_known ?c_r_note_known ?k_r_note_known) (Dm.mt_here ?a_r_note_hand ?i_r_note_hand ?l_r_note_hand ?c_r_note_hand ?k_r_note_hand) (Dm.mt_here ?a_r_lay ?i_r_lay ?l_r_lay ?c_r_lay ?k_r_lay) (Dm.mt_here ?a_r_note_pass ?i_r_note_pass ?l_r_note_pass ?c_r_note_pass ?k_r_note_pass) (Dm.mt_here ?a_r_is_all_shown ?i_r_is_all_shown ?l_r_is_all_shown ?c_r_is_all_shown ?k_r_is_all_shown) (Dm.mt_here ?a_r_counts ?i_r_counts ?l_r_counts ?c_r_counts ?k_r_counts) (Dm.mt_here ?a_r_winner ?i_r_winner ?l_r_winner ?c_r_winner ?k_r_winner) (Dm.mt_here ?a_r_end_turn ?i_r_end_turn ?l_r_end_turn ?c_r_end_turn ?k_r_end_turn) (Dm.in_here ?a_w_init ?i_w_init ?l_w_init ?c_w_init ?k_w_init) (Dm.mt_here ?a_w_begin ?i_w_begin ?l_w_begin ?c_w_begin ?k_w_begin) (Dm.mt_here ?a_w_know ?i_w_know ?l_w_know ?c_w_know ?k_w_know) (Dm.mt_here ?a_w_know_refusal ?i_w_know_refusal ?l_w_know_refusal ?c_w_know_refusal ?k_w_know_refusal) (Dm.mt_here ?a_w_play ?i_w_play ?l_w_play ?c_w_play ?k_w_play) (Dm.mt_here ?a_w_play_refusal ?i_w_play_refusal ?l_w_play_refusal ?c_w_play_refusal ?k_w_play_refusal) (Dm.mt_here ?a_w_pass_by ?i_w_pass_by ?l_w_pass_by ?c_w_pass_by ?k_w_pass_by) (Dm.mt_here ?a_w_pass_refusal ?i_w_pass_refusal ?l_w_pass_refusal ?c_w_pass_refusal ?k_w_pass_refusal) (Dm.mt_here ?a_w_count_fitting ?i_w_count_fitting ?l_w_count_fitting ?c_w_count_fitting ?k_w_count_fitting) (Dm.mt_here ?a_w_has_round ?i_w_has_round ?l_w_has_round ?c_w_has_round ?k_w_has_round) (Dm.mt_here ?a_w_may ?i_w_may ?l_w_may ?c_w_may ?k_w_may) (Dm.mt_here ?a_w_may_refusal ?i_w_may_refusal ?l_w_may_refusal ?c_w_may_refusal ?k_w_may_refusal) (Dm.mt_here ?a_w_show ?i_w_show ?l_w_show ?c_w_show ?k_w_show) (Dm.mt_here ?a_w_show_refusal ?i_w_show_refusal ?l_w_show_refusal ?c_w_show_refusal ?k_w_show_refusal) (Dm.mt_here ?a_w_hand_refusal ?i_w_hand_refusal ?l_w_hand_refusal ?c_w_hand_refusal ?k_w_hand_refusal) (Dm.mt_here ?a_w_score ?i_w_score ?l_w_score ?c_w_score ?k_w_score) (Dm.mt_here ?a_w_now ?i_w_now ?l_w_now ?c_w_now ?k_w_now) (Dm.mt_here ?a_w_tell_line ?i_w_tell_line ?l_w_tell_line ?c_w_tell_line ?k_w_tell_line)
    (case gR => k_is)
    (case gW => k_is)
    (case pgR => k_is)
    (case hdR => k_is)
    (case poR => k_is)
    (case saR => k_is)
    (case mkR => k_is)
    (case kcR => k_is)
    (case pgW => k_is)
    (case hdW => k_is)
    (case poW => k_is)
    (case saW => k_is)
    (case mkW => k_is)
    (case kcW => k_is)
    (case a_players => k_is)
    (case a_greatest => k_is)
    (case a_turn => k_is)
    (case a_line => k_is)
    (case a_hidden => k_is)
    (case a_room => k_is)
    (case a_known => k_is)
    (case a_lacks => k_is)
    (case a_passes => k_is)
    (case a_shown => k_is)
    (case a_seen => k_is)
    (case z_len => k_is)
    (case z_range => k_is)
    (case z_min => k_is)
    (case z_max => k_is)
    (case z_sum => k_is)
    (case z_tuple => k_is)
    (case z_int => k_is)
    (case z_all => k_is)
    (case z_any => k_is)
    (case z_set => k_is)
    (case k_LEFT => k_is)
    (case k_RIGHT => k_is)
    (case k_MOST_STATES => k_is)
    (case k_BEGIN => k_is)
    (case k_KNOW => k_is)
    (case k_PLAY => k_is)
    (case k_PASS => k_is)
    (case k_DEALS => k_is)
    (case k_MAY => k_is)
    (case k_SHOW => k_is)
    (case k_SCORE => k_is)
    (case k_NOW => k_is)
    (case gL => k_is)
    (case lL => k_is)
    (case a_f_count_deals => k_is)
    (case l_f_count_deals => k_is)
    (case c_f_count_deals => k_is)
    (case k_f_count_deals => k_is)
    (case a_f_count_by_place => k_is)
    (case l_f_count_by_place => k_is)
    (case c_f_count_by_place => k_is)
    (case k_f_count_by_place => k_is)
    (case a_f_ways_by_room_left => k_is)
    (case l_f_ways_by_room_left => k_is)
    (case c_f_ways_by_room_left => k_is)
    (case k_f_ways_by_room_left => k_is)
    (case a_f_with_one_dealt => k_is)
    (case l_f_with_one_dealt => k_is)
    (case c_f_with_one_dealt => k_is)
    (case k_f_with_one_dealt => k_is)
    (case a_f_all_tiles => k_is)
    (case l_f_all_tiles => k_is)
    (case c_f_all_tiles => k_is)
    (case k_f_all_tiles => k_is)
    (case a_f_tile_of => k_is)
    (case l_f_tile_of => k_is)
    (case c_f_tile_of => k_is)
    (case k_f_tile_of => k_is)
    (case a_f_tiles_of => k_is)
    (case l_f_tiles_of => k_is)
    (case c_f_tiles_of => k_is)
    (case k_f_tiles_of => k_is)
    (case a_f_other_number => k_is)
    (case l_f_other_number => k_is)
    (case c_f_other_number => k_is)
    (case k_f_other_number => k_is)
    (case a_f_points_of => k_is)
    (case l_f_points_of => k_is)
    (case c_f_points_of => k_is)
    (case k_f_points_of => k_is)
    (case a_f_begin_refusal => k_is)
    (case l_f_begin_refusal => k_is)
    (case c_f_begin_refusal => k_is)
    (case k_f_begin_refusal => k_is)
    (case a_f_answers => k_is)
    (case l_f_answers => k_is)
    (case c_f_answers => k_is)
    (case k_f_answers => k_is)
    (case a_f_answer_of => k_is)
    (case l_f_answer_of => k_is)
    (case c_f_answer_of => k_is)
    (case k_f_answer_of => k_is)
    (case a_r_init => k_is)
    (case i_r_init => k_is)
    (case l_r_init => k_is)
    (case c_r_init => k_is)
    (case k_r_init => k_is)
    (case a_r_has_tile => k_is)
    (case i_r_has_tile => k_is)
    (case l_r_has_tile => k_is)
    (case c_r_has_tile => k_is)
    (case k_r_has_tile => k_is)
    (case a_r_has_place => k_is)
    (case i_r_has_place => k_is)
    (case l_r_has_place => k_is)
    (case c_r_has_place => k_is)
    (case k_r_has_place => k_is)
    (case a_r_has_player => k_is)
    (case i_r_has_player => k_is)
    (case l_r_has_player => k_is)
    (case c_r_has_player => k_is)
    (case k_r_has_player => k_is)
    (case a_r_is_over => k_is)
    (case i_r_is_over => k_is)
    (case l_r_is_over => k_is)
    (case c_r_is_over => k_is)
    (case k_r_is_over => k_is)
    (case a_r_lies => k_is)
    (case i_r_lies => k_is)
    (case l_r_lies => k_is)
    (case c_r_lies => k_is)
    (case k_r_lies => k_is)
    (case a_r_ends => k_is)
    (case i_r_ends => k_is)
    (case l_r_ends => k_is)
    (case c_r_ends => k_is)
    (case k_r_ends => k_is)
    (case a_r_fits => k_is)
    (case i_r_fits => k_is)
    (case l_r_fits => k_is)
    (case c_r_fits => k_is)
    (case k_r_fits => k_is)
    (case a_r_stands => k_is)
    (case i_r_stands => k_is)
    (case l_r_stands => k_is)
    (case c_r_stands => k_is)
    (case k_r_stands => k_is)
    (case a_r_places_of => k_is)
    (case i_r_places_of => k_is)
    (case l_r_places_of => k_is)
    (case c_r_places_of => k_is)
    (case k_r_places_of => k_is)
    (case a_r_is_lacking => k_is)
    (case i_r_is_lacking => k_is)
    (case l_r_is_lacking => k_is)
    (case c_r_is_lacking => k_is)
    (case k_r_is_lacking => k_is)
    (case a_r_deals => k_is)
    (case i_r_deals => k_is)
    (case l_r_deals => k_is)
    (case c_r_deals => k_is)
    (case k_r_deals => k_is)
    (case a_r_deals_by_place => k_is)
    (case i_r_deals_by_place => k_is)
    (case l_r_deals_by_place => k_is)
    (case c_r_deals_by_place => k_is)
    (case k_r_deals_by_place => k_is)
    (case a_r_deals_with_hand => k_is)
    (case i_r_deals_with_hand => k_is)
    (case l_r_deals_with_hand => k_is)
    (case c_r_deals_with_hand => k_is)
    (case k_r_deals_with_hand => k_is)
    (case a_r_deals_after_pass => k_is)
    (case i_r_deals_after_pass => k_is)
    (case l_r_deals_after_pass => k_is)
    (case c_r_deals_after_pass => k_is)
    (case k_r_deals_after_pass => k_is)
    (case a_r_note_known => k_is)
    (case i_r_note_known => k_is)
    (case l_r_note_known => k_is)
    (case c_r_note_known => k_is)
    (case k_r_note_known => k_is)
    (case a_r_note_hand => k_is)
    (case i_r_note_hand => k_is)
    (case l_r_note_hand => k_is)
    (case c_r_note_hand => k_is)
    (case k_r_note_hand => k_is)
    (case a_r_lay => k_is)
    (case i_r_lay => k_is)
    (case l_r_lay => k_is)
    (case c_r_lay => k_is)
    (case k_r_lay => k_is)
    (case a_r_note_pass => k_is)
    (case i_r_note_pass => k_is)
    (case l_r_note_pass => k_is)
    (case c_r_note_pass => k_is)
    (case k_r_note_pass => k_is)
    (case a_r_is_all_shown => k_is)
    (case i_r_is_all_shown => k_is)
    (case l_r_is_all_shown => k_is)
    (case c_r_is_all_shown => k_is)
    (case k_r_is_all_shown => k_is)
    (case a_r_counts => k_is)
    (case i_r_counts => k_is)
    (case l_r_counts => k_is)
    (case c_r_counts => k_is)
    (case k_r_counts => k_is)
    (case a_r_winner => k_is)
    (case i_r_winner => k_is)
    (case l_r_winner => k_is)
    (case c_r_winner => k_is)
    (case k_r_winner => k_is)
    (case a_r_end_turn => k_is)
    (case i_r_end_turn => k_is)
    (case l_r_end_turn => k_is)
    (case c_r_end_turn => k_is)
    (case k_r_end_turn => k_is)
    (case a_w_init => k_is)
    (case i_w_init => k_is)
    (case l_w_init => k_is)
    (case c_w_init => k_is)
    (case k_w_init => k_is)
    (case a_w_begin => k_is)
    (case i_w_begin => k_is)
    (case l_w_begin => k_is)
    (case c_w_begin => k_is)
    (case k_w_begin => k_is)
    (case a_w_know => k_is)
    (case i_w_know => k_is)
    (case l_w_know => k_is)
    (case c_w_know => k_is)
    (case k_w_know => k_is)
    (case a_w_know_refusal => k_is)
    (case i_w_know_refusal => k_is)
    (case l_w_know_refusal => k_is)
    (case c_w_know_refusal => k_is)
    (case k_w_know_refusal => k_is)
    (case a_w_play => k_is)
    (case i_w_play => k_is)
    (case l_w_play => k_is)
    (case c_w_play => k_is)
    (case k_w_play => k_is)
    (case a_w_play_refusal => k_is)
    (case i_w_play_refusal => k_is)
    (case l_w_play_refusal => k_is)
    (case c_w_play_refusal => k_is)
    (case k_w_play_refusal => k_is)
    (case a_w_pass_by => k_is)
    (case i_w_pass_by => k_is)
    (case l_w_pass_by => k_is)
    (case c_w_pass_by => k_is)
    (case k_w_pass_by => k_is)
    (case a_w_pass_refusal => k_is)
    (case i_w_pass_refusal => k_is)
    (case l_w_pass_refusal => k_is)
    (case c_w_pass_refusal => k_is)
    (case k_w_pass_refusal => k_is)
    (case a_w_count_fitting => k_is)
    (case i_w_count_fitting => k_is)
    (case l_w_count_fitting => k_is)
    (case c_w_count_fitting => k_is)
    (case k_w_count_fitting => k_is)
    (case a_w_has_round => k_is)
    (case i_w_has_round => k_is)
    (case l_w_has_round => k_is)
    (case c_w_has_round => k_is)
    (case k_w_has_round => k_is)
    (case a_w_may => k_is)
    (case i_w_may => k_is)
    (case l_w_may => k_is)
    (case c_w_may => k_is)
    (case k_w_may => k_is)
    (case a_w_may_refusal => k_is)
    (case i_w_may_refusal => k_is)
    (case l_w_may_refusal => k_is)
    (case c_w_may_refusal => k_is)
    (case k_w_may_refusal => k_is)
    (case a_w_show => k_is)
    (case i_w_show => k_is)
    (case l_w_show => k_is)
    (case c_w_show => k_is)
    (case k_w_show => k_is)
    (case a_w_show_refusal => k_is)
    (case i_w_show_refusal => k_is)
    (case l_w_show_refusal => k_is)
    (case c_w_show_refusal => k_is)
    (case k_w_show_refusal => k_is)
    (case a_w_hand_refusal => k_is)
    (case i_w_hand_refusal => k_is)
    (case l_w_hand_refusal => k_is)
    (case c_w_hand_refusal => k_is)
    (case k_w_hand_refusal => k_is)
    (case a_w_score => k_is)
    (case i_w_score => k_is)
    (case l_w_score => k_is)
    (case c_w_score => k_is)
    (case k_w_score => k_is)
    (case a_w_now => k_is)
    (case i_w_now => k_is)
    (case l_w_now => k_is)
    (case c_w_now => k_is)
    (case k_w_now => k_is)
    (case a_w_tell_line => k_is)
    (case i_w_tell_line => k_is)
    (case l_w_tell_line => k_is)
    (case c_w_tell_line => k_is)
    (case k_w_tell_line => k_is)
    (case hk => decide +kernel)
    (case l1 => exact ⟨_, rfl⟩)
    (case l2 => exact ⟨_, rfl⟩)
    (case l3 => exact ⟨_, rfl⟩)
    (case l4 => exact ⟨_, rfl⟩)
    (case l5 => exact ⟨_, rfl⟩)
    (case l6 => exact ⟨_, rfl⟩)
    (case l7 => exact ⟨_, rfl⟩)
    (case l8 => exact ⟨_, rfl⟩)
    (case l9 => exact ⟨_, rfl⟩)
    (case l10 => exact ⟨_, rfl⟩)
  case S =>
    intro K H xs a hO hwi hask hx
    cases hx with
    | cons h1 h2 =>
      cases h2
      cases h1 with
      | lst hs ha =>
        have e := L2.ints_dw a.1 _ ha
        subst e
        exact ⟨_, a.1, rfl, hs, hask, fun H' p hp => .lst (L2.SqL.of hp) (L2.dw_ints _)⟩
