"""The calls: what is refused, and what is answered."""

from dominotable.rounds import LEFT, RIGHT, Round
from dominotable.tiles import all_tiles, tile_of

MOST_STATES = 4096


def begin_refusal(players, each, greatest, first):
    """The refusal of such a beginning that is told first, or 0."""
    if not (2 <= players <= 4 and 1 <= each <= 7 and 1 <= greatest <= 6):
        return -1
    if not 0 <= first < players:
        return -1
    rest = len(all_tiles(greatest)) - players * each
    if rest < 0:
        return -4
    states = rest + 1
    for player in range(players):
        states = states * (each + 1)
    if states > MOST_STATES:
        return -5
    return 0


class Watcher:
    """Somebody who watches one round at a time and answers calls.

    Each call answers a list of numbers; a refusal is alone in it.
    """

    def __init__(self):
        # Ahead of the first begin it is over, without players and tiles.
        self.seen = Round(0, 0, -1, -1)

    def begin(self, players, each, greatest, first):
        """A new round; answers how many tiles are in the rest."""
        refusal = begin_refusal(players, each, greatest, first)
        if refusal < 0:
            return [refusal]
        self.seen = Round(players, each, greatest, first)
        return [self.seen.room[players]]

    def know(self, place, one, other):
        """A look at a tile; answers how many are known to be somewhere."""
        tile = tile_of(one, other)
        refusal = self.know_refusal(place, tile)
        if refusal < 0:
            return [refusal]
        self.seen.note_known(tile, place)
        return [len(self.seen.known)]

    def know_refusal(self, place, tile):
        """The refusal of such a look that is told first, or 0."""
        if not (self.seen.has_tile(tile) and self.seen.has_place(place)):
            return -1
        if self.seen.is_over():
            return -3
        if self.seen.lies(tile) or tile in self.seen.known:
            return -4
        if self.seen.deals_with(tile, place) == 0:
            return -7
        return 0

    def play(self, one, other, side):
        """Answers how many tiles the player has left, and how it stands."""
        tile = tile_of(one, other)
        refusal = self.play_refusal(tile, side)
        if refusal < 0:
            return [refusal]
        player = self.seen.turn
        self.seen.lay(tile, side)
        return [self.seen.room[player]] + self.seen.stands()

    def play_refusal(self, tile, side):
        """The refusal of such a play that is told first, or 0."""
        if not self.seen.has_tile(tile) or side not in (LEFT, RIGHT):
            return -1
        if self.seen.is_over():
            return -3
        if self.seen.lies(tile):
            return -4
        if not self.seen.fits(tile, side):
            return -6
        if self.seen.deals_with(tile, self.seen.turn) == 0:
            return -7
        return 0

    def pass_by(self):
        """Answers how many passed one behind another, and how it stands."""
        refusal = self.pass_refusal()
        if refusal < 0:
            return [refusal]
        self.seen.note_pass()
        return [self.seen.passes] + self.seen.stands()

    def pass_refusal(self):
        """The refusal of a pass that is told first, or 0."""
        if self.seen.is_over():
            return -3
        if len(self.seen.line) == 0:
            return -6
        if self.seen.deals_after_pass() == 0:
            return -7
        return 0

    def count_fitting(self):
        """Answers how many deals fit."""
        if self.seen.players == 0:
            return [-2]
        return [self.seen.deals()]
