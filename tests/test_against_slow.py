"""Rounds of all sorts, compared with a watcher that keeps every deal."""

import unittest
from random import Random

from tests.helper import (
    DEALS, LINE, NOW, PASS, SCORE, SlowWatcher, begin, every_tile, know, may, play, show, told,
)

ROUNDS = (
    (2, 1, 1), (3, 1, 1), (2, 1, 2), (2, 2, 2), (2, 3, 2), (3, 1, 2), (3, 2, 2), (4, 1, 2),
    (2, 2, 3), (2, 3, 3), (2, 5, 3), (3, 1, 3), (4, 1, 3), (3, 2, 3), (2, 4, 3),
)
BY_PASSES = ((2, 2, 3), (2, 2, 4), (3, 2, 3))
TRIALS = 24
CALLS = 60
# By call, the refusals that it has.
REFUSALS = {
    1: (-1, -4), 2: (-1, -3, -4, -7), 3: (-1, -3, -4, -6, -7), 4: (-3, -6, -7), 5: (),
    6: (-1, -4), 7: (-1, -3, -4, -5, -7), 8: (-3,), 9: (), 10: (),
}


def some_calls(random, slow, greatest):
    """A call that is likely to be taken, of those that may come next."""
    players = slow.players
    tile = list(random.choice(every_tile(greatest)))
    random.shuffle(tile)
    if random.random() < 0.05:
        tile[0] = random.choice((-1, greatest + 1, 2147483647))
    if random.random() < (0.6 if slow.over() else 0.05):
        return [some_hand(random, slow, greatest)]
    kind = random.random()
    if kind < 0.45:
        if slow.line and random.random() < 0.9:
            tile[0] = random.choice((slow.line[0][0], slow.line[-1][1]))
        return [play(tile[0], tile[1], random.choice((0, 0, 0, 1, 1, 1, 2)))]
    if kind < 0.6:
        return [know(random.randrange(-1, players + 2), tile[0], tile[1])]
    if kind < 0.75:
        return [PASS, DEALS]
    if kind < 0.84:
        return [may(tile[0], tile[1])]
    if kind < 0.95:
        return [random.choice((SCORE, NOW, LINE))]
    return [begin(random.randrange(1, 6), random.randrange(0, 4), greatest, 0), DEALS]


def some_hand(random, slow, greatest):
    """A hand of some deal, mostly of one that fits, as it's shown."""
    player = random.randrange(slow.players)
    if len(slow.hands) < slow.players and random.random() < 0.7:
        player = random.choice([p for p in range(slow.players) if p not in slow.hands])
    deal = random.choice(slow.deals)
    if random.random() < 0.2:
        places = list(deal.values())
        random.shuffle(places)
        deal = dict(zip(deal, places))
    hand = hand_in(deal, player, slow)
    if random.random() < 0.1:
        hand.append(random.choice(every_tile(greatest)))
    random.shuffle(hand)
    row = row_of(random, hand)
    if random.random() < 0.1:
        row.append(random.choice((0, greatest, greatest + 1)))
    if random.random() < 0.1:
        player = random.choice((-1, slow.players, 2147483647))
    return show(player, *row)


def hand_in(deal, player, slow):
    """The tiles that the player has in that deal still."""
    return [tile for tile in deal if deal[tile] == player and tile not in slow.table]


def row_of(random, hand):
    """The numbers of the tiles, each told in either order."""
    return [number for tile in hand for number in random.sample(tile, 2)]


class AgainstSlow(unittest.TestCase):

    def test_rounds_of_all_sorts(self):
        seen = {}
        for players, tiles, greatest in ROUNDS:
            for trial in range(TRIALS):
                random = Random(f"{players} {tiles} {greatest} {trial}")
                slow = SlowWatcher()
                calls = [begin(players, tiles, greatest, random.randrange(players)), DEALS]
                asked = [slow.answer(call) for call in calls]
                while len(calls) < CALLS:
                    for call in some_calls(random, slow, greatest):
                        calls.append(call)
                        asked.append(slow.answer(call))
                calls, asked = calls[:CALLS], asked[:CALLS]
                self.assertEqual(told(*calls), asked)
                for call, answer in zip(calls, asked):
                    key = (call[0], min(answer[0], 0))
                    seen[key] = seen.get(key, 0) + 1
        for call, refusals in REFUSALS.items():
            for first in refusals + (0,):
                self.assertGreater(seen.get((call, first), 0), 10, (call, first))

    def test_rounds_over_by_passes_and_their_scores(self):
        seen = {0: 0, 1: 0}
        for players, tiles, greatest in BY_PASSES:
            for trial in range(2 * TRIALS):
                random = Random(f"{players} {tiles} {greatest} {trial}")
                number = random.randrange(greatest + 1)
                slow = SlowWatcher()
                calls = [begin(players, tiles, greatest, 0), play(number, number, 0)]
                calls += [PASS] * players
                asked = [slow.answer(call) for call in calls]
                for player in random.sample(range(players), players):
                    hand = hand_in(random.choice(slow.deals), player, slow)
                    tile = random.choice(every_tile(greatest))
                    shown = show(player, *row_of(random, hand))
                    for call in (SCORE, shown, shown, DEALS, may(*tile), NOW):
                        calls.append(call)
                        asked.append(slow.answer(call))
                calls.append(SCORE)
                asked.append(slow.answer(SCORE))
                self.assertEqual(told(*calls), asked)
                seen[asked[-1][0]] += 1
        self.assertGreater(min(seen.values()), 5, seen)


if __name__ == "__main__":
    unittest.main()
