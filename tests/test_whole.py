"""What the document says of the program as a whole, in large rounds too."""

import unittest
from random import Random

from tests.helper import (
    DEALS, LINE, NOW, PASS, SCORE, begin, every_tile, know, last, may, play, show, told,
)

ROUNDS = ((2, 2, 3), (2, 3, 3), (3, 2, 3), (2, 5, 4), (3, 3, 4), (2, 7, 6), (3, 7, 6), (4, 7, 6))


def dealt_round(random, players, tiles, greatest):
    """The calls of a whole round as one deal has it, with looks at tiles."""
    every = every_tile(greatest)
    random.shuffle(every)
    hands = [every[player * tiles:(player + 1) * tiles] for player in range(players)]
    turn = random.randrange(players)
    calls = [begin(players, tiles, greatest, turn)]
    place_of = {tile: place for place in range(players) for tile in hands[place]}
    ends, passes, unseen = None, 0, list(every)
    while all(hands) and passes < players:
        if unseen and random.random() < 0.2:
            tile = unseen.pop(random.randrange(len(unseen)))
            calls.append(know(place_of.get(tile, players), *tile))
        fitting = [(tile, side) for tile in hands[turn] for side in (0, 1)
                   if ends is None or ends[side] in tile]
        if fitting:
            tile, side = random.choice(fitting)
            calls.append(play(*random.sample(tile, 2), side))
            hands[turn].remove(tile)
            unseen = [other for other in unseen if other != tile]
            if ends is None:
                ends = sorted(tile)
            else:
                ends[side] = sum(tile) - ends[side]
            passes = 0
        else:
            calls.append(PASS)
            passes += 1
        turn = (turn + 1) % players
    for player in random.sample(range(players), players):
        calls.append(show(player, *[number for tile in hands[player] for number in tile]))
    return calls, hands


def behind_each(calls, *asked):
    """What these answer behind each of the calls, by lists of at most 60."""
    each = 1 + len(asked)
    given = []
    while len(given) < len(calls):
        done = len(given)
        part = calls[done:done + (60 - done) // each]
        flat = told(*calls[:done], *[one for call in part for one in (call, *asked)])[done:]
        given += [flat[at + 1:at + each] for at in range(0, len(flat), each)]
    return given


class Whole(unittest.TestCase):

    def rounds(self):
        for sizes in ROUNDS:
            for trial in range(4):
                yield sizes, dealt_round(Random(f"{sizes} {trial}"), *sizes)

    def test_a_round_as_one_deal_has_it_is_never_refused(self):
        for sizes, (calls, hands) in self.rounds():
            given = told(*calls, SCORE)
            self.assertGreaterEqual(min(answer[0] for answer in given), 0)
            counts = [sum(sum(tile) for tile in hand) for hand in hands]
            self.assertEqual(given[-1][2:], [sum(counts)] + counts)
            self.assertEqual(given[-1][0], int(given[-1][1] >= 0))

    def test_whoever_knows_more_has_no_more_deals_and_some_deal_fits(self):
        for sizes, (calls, hands) in self.rounds():
            counts = [count for ((count,),) in behind_each(calls, DEALS)]
            self.assertEqual(counts, sorted(counts, reverse=True))
            self.assertEqual(counts[-1], 1)

    def test_counted_by_where_a_tile_is_deals_are_all(self):
        for players, tiles, greatest in ROUNDS:
            calls, hands = dealt_round(Random(f"{players} {tiles}"), players, tiles, greatest)
            every = every_tile(greatest)
            for upto in range(1, len(calls) + 1, 3):
                given = told(*calls[:upto], NOW, DEALS, *[may(*tile) for tile in every])[upto:]
                now, (deals,) = given[:2]
                counted = [answer for answer in given[2:] if answer != [-4]]
                room = now[4:4 + players] + [now[4 + players]]
                self.assertEqual(len(counted), sum(room))
                for answer in counted:
                    self.assertEqual(sum(answer[1:]), deals)
                    self.assertLessEqual(sum(count > 0 for count in answer[1:]), answer[0])
                for place, has in enumerate(room):
                    self.assertEqual(sum(answer[1 + place] for answer in counted), has * deals)

    def test_what_may_counts_is_what_is_left_when_it_is_known(self):
        calls = [begin(3, 7, 6, 0), play(3, 5, 0), PASS, know(3, 6, 6), play(5, 6, 1)]
        for tile in ((6, 6), (0, 0), (3, 3), (2, 6), (4, 5)):
            answer = last(*calls, may(*tile))
            for place in range(4):
                looked = told(*calls, know(place, *tile), DEALS)[-2:]
                if looked[0] == [-4]:
                    self.assertEqual(answer[0], 1)
                elif looked[0] == [-7]:
                    self.assertEqual(answer[1 + place], 0)
                else:
                    self.assertEqual([answer[1 + place]], looked[1])

    def test_no_tile_lies_twice_and_like_numbers_lie_together(self):
        for sizes, (calls, hands) in self.rounds():
            for now, line in behind_each(calls, NOW, LINE):
                tiles = list(zip(line[1::2], line[2::2]))
                self.assertEqual(len(line), 1 + 2 * line[0])
                self.assertEqual(len({tuple(sorted(tile)) for tile in tiles}), line[0])
                for left, right in zip(tiles, tiles[1:]):
                    self.assertEqual(left[1], right[0])
                if tiles:
                    self.assertEqual(now[2:4], [tiles[0][0], tiles[-1][1]])

    def test_the_most_that_is_counted(self):
        # 4096 sorts of room that is left, asked as often as there are calls.
        calls = [begin(3, 7, 6, 0)] + [may(*tile) for tile in every_tile(6)] * 2 + [DEALS] * 3
        given = told(*calls)
        self.assertEqual(len(calls), 60)
        self.assertEqual({tuple(answer) for answer in given[1:57]}, {(4,) + (given[57][0] // 4,) * 4})


if __name__ == "__main__":
    unittest.main()
