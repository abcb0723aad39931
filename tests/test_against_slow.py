"""Rounds of all sorts, compared with a watcher that keeps every deal."""

import unittest
from random import Random

from tests.helper import DEALS, PASS, SlowWatcher, begin, every_tile, know, play, told

ROUNDS = (
    (2, 1, 1), (3, 1, 1), (2, 1, 2), (2, 2, 2), (2, 3, 2), (3, 1, 2), (3, 2, 2), (4, 1, 2),
    (2, 2, 3), (2, 3, 3), (2, 5, 3), (3, 1, 3), (4, 1, 3), (3, 2, 3), (2, 4, 3),
)
TRIALS = 12


def some_calls(random, slow, players, greatest):
    """A call that is likely to be taken, of those that may come next."""
    tile = list(random.choice(every_tile(greatest)))
    random.shuffle(tile)
    if random.random() < 0.05:
        tile[0] = random.choice((-1, greatest + 1, 2147483647))
    kind = random.random()
    if kind < 0.55:
        if slow.line and random.random() < 0.9:
            tile[0] = random.choice((slow.line[0][0], slow.line[-1][1]))
        return [play(tile[0], tile[1], random.choice((0, 0, 0, 1, 1, 1, 2)))]
    if kind < 0.75:
        return [know(random.randrange(-1, players + 2), tile[0], tile[1])]
    if kind < 0.97:
        return [PASS, DEALS]
    return [begin(random.randrange(1, 6), random.randrange(0, 4), greatest, 0), DEALS]


class AgainstSlow(unittest.TestCase):

    def test_rounds_of_all_sorts(self):
        seen = {}
        for players, tiles, greatest in ROUNDS:
            for trial in range(TRIALS):
                random = Random(f"{players} {tiles} {greatest} {trial}")
                slow = SlowWatcher()
                calls = [begin(players, tiles, greatest, random.randrange(players)), DEALS]
                asked = [slow.answer(call) for call in calls]
                while len(calls) < 58:
                    for call in some_calls(random, slow, players, greatest):
                        calls.append(call)
                        asked.append(slow.answer(call))
                self.assertEqual(told(*calls), asked)
                for call, answer in zip(calls, asked):
                    key = (call[0], min(answer[0], 0))
                    seen[key] = seen.get(key, 0) + 1
        for key in ((1, -1), (1, -4), (1, 0), (2, -1), (2, -3), (2, -4), (2, -7), (2, 0)) + (
            (3, -1), (3, -3), (3, -4), (3, -6), (3, -7), (3, 0), (4, -3), (4, -6), (4, -7), (4, 0)
        ):
            self.assertGreater(seen.get(key, 0), 10, key)


if __name__ == "__main__":
    unittest.main()
