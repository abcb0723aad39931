"""Calls as they are handed in, answers as they are given back, and a slow
watcher that keeps every deal, to compare with."""

from functools import lru_cache

from dominotable.table import answers

LOWEST = -2147483648
HIGHEST = 2147483647
FAR = (LOWEST, LOWEST + 1, -1000, HIGHEST - 1, HIGHEST)

LEFT = 0
RIGHT = 1
PASS = [4]
DEALS = [5]
SCORE = [8]
NOW = [9]
LINE = [10]


def begin(players, tiles, greatest, first):
    return [1, players, tiles, greatest, first]


def know(place, one, other):
    return [2, place, one, other]


def play(one, other, side):
    return [3, one, other, side]


def may(one, other):
    return [6, one, other]


def show(player, *hand):
    """hand: the numbers of the row, as they are."""
    return [7, player, len(hand), *hand]


def told(*calls):
    """What each of the calls answers, as a list of lists."""
    flat = answers([number for call in calls for number in call])
    split = []
    at = 0
    while at < len(flat):
        behind = at + 1 + flat[at]
        split.append(flat[at + 1:behind])
        at = behind
    assert at == len(flat) and len(split) == len(calls)
    return split


def last(*calls):
    """What the last of the calls answers."""
    return told(*calls)[-1]


def every_tile(greatest):
    return [(a, b) for b in range(greatest + 1) for a in range(b + 1)]


@lru_cache(maxsize=None)
def every_deal(tiles, room):
    """Every deal of the tiles, each a dict from tile to place."""
    if not tiles:
        return ({},)
    deals = []
    for place, free in enumerate(room):
        if free:
            less = room[:place] + (free - 1,) + room[place + 1:]
            deals += [{**deal, tiles[0]: place} for deal in every_deal(tiles[1:], less)]
    return tuple(deals)


class SlowWatcher:
    """Keeps every deal that fits and crosses out; nothing is counted up."""

    def __init__(self):
        self.players = 0

    def answer(self, call):
        kinds = {
            1: self.begin, 2: self.know, 3: self.play, 4: self.pass_by, 5: self.count,
            6: self.may, 7: self.show, 8: self.score, 9: self.now, 10: self.tell_line,
        }
        return kinds[call[0]](*call[1:])

    def begin(self, players, tiles, greatest, first):
        if players not in (2, 3, 4) or tiles not in range(1, 8) or greatest not in range(1, 7):
            return [-1]
        if first not in range(players):
            return [-1]
        every = every_tile(greatest)
        rest = len(every) - players * tiles
        if rest < 0:
            return [-4]
        if (tiles + 1) ** players * (rest + 1) > 4096:
            return [-5]
        self.players, self.every, self.turn = players, every, first
        self.room = [tiles] * players + [rest]
        self.deals = every_deal(tuple(every), tuple(self.room))
        self.table, self.known, self.line, self.passes = set(), {}, [], 0
        self.passed, self.hands = set(), {}
        return [rest]

    def tile(self, one, other):
        """The tile, or None where there is none."""
        for tile in self.every if self.players else []:
            if sorted((one, other)) == list(tile):
                return tile
        return None

    def stands(self):
        ends = [self.line[0][0], self.line[-1][1]] if self.line else [-1, -1]
        return [-1 if self.over() else self.turn] + ends + self.room[:-1]

    def over(self):
        return not self.players or 0 in self.room[:-1] or self.passes == self.players

    def keep(self, deals):
        """Keeps these deals if there are any."""
        if deals:
            self.deals = deals
        return bool(deals)

    def know(self, place, one, other):
        tile = self.tile(one, other)
        if tile is None or place not in range(self.players + 1):
            return [-1]
        if self.over():
            return [-3]
        if tile in self.table or tile in self.known:
            return [-4]
        if not self.keep([deal for deal in self.deals if deal[tile] == place]):
            return [-7]
        self.known[tile] = place
        return [len(self.known)]

    def play(self, one, other, side):
        tile = self.tile(one, other)
        if tile is None or side not in (0, 1):
            return [-1]
        if self.over():
            return [-3]
        if tile in self.table:
            return [-4]
        laid = self.laid(tile, side)
        if laid is None:
            return [-6]
        if not self.keep([deal for deal in self.deals if deal[tile] == self.turn]):
            return [-7]
        self.line = laid
        self.table.add(tile)
        self.known.pop(tile, None)
        self.room[self.turn] -= 1
        left = self.room[self.turn]
        self.passes = 0
        self.turn = (self.turn + 1) % self.players
        return [left] + self.stands()

    def laid(self, tile, side):
        """The line with the tile at that side, or None if it doesn't fit."""
        if not self.line:
            return [tile]
        for turned in (tile, tile[::-1]):
            longer = [turned] + self.line if side == 0 else self.line + [turned]
            if all(a[1] == b[0] for a, b in zip(longer, longer[1:])):
                return longer
        return None

    def pass_by(self):
        if self.over():
            return [-3]
        if not self.line:
            return [-6]
        ends = {self.line[0][0], self.line[-1][1]}
        hit = [tile for tile in self.every if tile not in self.table and ends & set(tile)]
        if not self.keep([deal for deal in self.deals if all(deal[t] != self.turn for t in hit)]):
            return [-7]
        self.passed |= {(self.turn, tile) for tile in hit}
        self.passes += 1
        self.turn = (self.turn + 1) % self.players
        return [self.passes] + self.stands()

    def count(self):
        """How many deals there are of the tiles that don't lie."""
        if not self.players:
            return [-2]
        return [len(self.deals)]

    def may(self, one, other):
        if not self.players:
            return [-2]
        tile = self.tile(one, other)
        if tile is None:
            return [-1]
        if tile in self.table:
            return [-4]
        places = range(self.players + 1)
        able = [place for place in places if (place, tile) not in self.passed]
        if tile in self.known:
            able = [self.known[tile]]
        has = [deal[tile] for deal in self.deals]
        return [len(able)] + [has.count(place) for place in places]

    def show(self, player, length, *row):
        assert len(row) == length
        if player not in range(self.players):
            return [-1]
        if not self.over():
            return [-3]
        if length % 2:
            return [-1]
        hand = [self.tile(one, other) for one, other in zip(row[::2], row[1::2])]
        if None in hand:
            return [-1]
        if player in self.hands:
            return [-5]
        has = set(hand) - self.table
        if len(has) != len(hand) or len(has) != self.room[player]:
            return [-4]
        if not self.keep([deal for deal in self.deals if all(deal[t] == player for t in has)]):
            return [-7]
        self.hands[player] = sum(row)
        self.known.update({tile: player for tile in has})
        return [sum(row), len(self.hands)]

    def score(self):
        if not self.players:
            return [-2]
        if not self.over() or len(self.hands) < self.players:
            return [-3]
        counts = [self.hands[player] for player in range(self.players)]
        # Who has no tile left is told ahead of all hands, whatever they count.
        keys = [(left > 0, left and count) for left, count in zip(self.room, counts)]
        won = keys.count(min(keys)) == 1
        return [int(won), keys.index(min(keys)) if won else -1, sum(counts)] + counts

    def now(self):
        if not self.players:
            return [1, -1, -1, -1, 0, 0, 0]
        return [int(self.over())] + self.stands() + [self.room[-1], self.passes, len(self.known)]

    def tell_line(self):
        if not self.players:
            return [0]
        return [len(self.line)] + [number for tile in self.line for number in tile]
