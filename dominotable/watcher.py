"""The calls: what is refused, and what is answered."""

from dominotable.rounds import LEFT, RIGHT, Round
from dominotable.tiles import all_tiles, points_of, tile_of, tiles_of

MOST_STATES = 4096


def begin_refusal(players, each, greatest, first):
    """The refusal of such a beginning that is told first, or 0."""
    if not (2 <= players <= 4 and 1 <= each <= 7 and 1 <= greatest <= 6):
        return -1
    if not 0 <= first < players:
        return -1
    rest = len(all_tiles(greatest)) - players * each
    if rest < 0:
        return -4
    states = rest + 1
    for player in range(players):
        states = states * (each + 1)
    if states > MOST_STATES:
        return -5
    return 0


class Watcher:
    """Somebody who watches one round at a time and answers calls.

    Each call answers a list of numbers; a refusal is alone in it.
    """

    def __init__(self):
        # Ahead of the first begin it is over, without players and tiles.
        self.seen = Round(0, 0, -1, -1)

    def begin(self, players, each, greatest, first):
        """A new round; answers how many tiles are in the rest."""
        refusal = begin_refusal(players, each, greatest, first)
        if refusal < 0:
            return [refusal]
        self.seen = Round(players, each, greatest, first)
        return [self.seen.room[players]]

    def know(self, place, one, other):
        """A look at a tile; answers how many are known to be somewhere."""
        tile = tile_of(one, other)
        refusal = self.know_refusal(place, tile)
        if refusal < 0:
            return [refusal]
        self.seen.note_known(tile, place)
        return [len(self.seen.known)]

    def know_refusal(self, place, tile):
        """The refusal of such a look that is told first, or 0."""
        if not (self.seen.has_tile(tile) and self.seen.has_place(place)):
            return -1
        if self.seen.is_over():
            return -3
        if self.seen.lies(tile) or tile in self.seen.known:
            return -4
        if self.seen.deals_by_place(tile)[place] == 0:
            return -7
        return 0

    def play(self, one, other, side):
        """Answers how many tiles the player has left, and how it stands."""
        tile = tile_of(one, other)
        refusal = self.play_refusal(tile, side)
        if refusal < 0:
            return [refusal]
        player = self.seen.turn
        self.seen.lay(tile, side)
        return [self.seen.room[player]] + self.seen.stands()

    def play_refusal(self, tile, side):
        """The refusal of such a play that is told first, or 0."""
        if not self.seen.has_tile(tile) or side not in (LEFT, RIGHT):
            return -1
        if self.seen.is_over():
            return -3
        if self.seen.lies(tile):
            return -4
        if not self.seen.fits(tile, side):
            return -6
        if self.seen.deals_by_place(tile)[self.seen.turn] == 0:
            return -7
        return 0

    def pass_by(self):
        """Answers how many passed one behind another, and how it stands."""
        refusal = self.pass_refusal()
        if refusal < 0:
            return [refusal]
        self.seen.note_pass()
        return [self.seen.passes] + self.seen.stands()

    def pass_refusal(self):
        """The refusal of a pass that is told first, or 0."""
        if self.seen.is_over():
            return -3
        if len(self.seen.line) == 0:
            return -6
        if self.seen.deals_after_pass() == 0:
            return -7
        return 0

    def count_fitting(self):
        """Answers how many deals fit."""
        if not self.has_round():
            return [-2]
        return [self.seen.deals()]

    def has_round(self):
        """Whether there has been a begin."""
        return self.seen.players > 0

    def may(self, one, other):
        """Answers how many may have the tile, and by place in how many deals."""
        tile = tile_of(one, other)
        refusal = self.may_refusal(tile)
        if refusal < 0:
            return [refusal]
        return [len(self.seen.places_of(tile))] + self.seen.deals_by_place(tile)

    def may_refusal(self, tile):
        """The refusal of such a question that is told first, or 0."""
        if not self.has_round():
            return -2
        if not self.seen.has_tile(tile):
            return -1
        if self.seen.lies(tile):
            return -4
        return 0

    def show(self, player, numbers):
        """Answers what the hand counts, and how many are shown."""
        refusal = self.show_refusal(player, numbers)
        if refusal < 0:
            return [refusal]
        hand = tiles_of(numbers)
        self.seen.note_hand(player, hand)
        return [points_of(hand), len(self.seen.shown)]

    def show_refusal(self, player, numbers):
        """The refusal of showing these that is told first, or 0."""
        if not self.seen.has_player(player):
            return -1
        if not self.seen.is_over():
            return -3
        if len(numbers) % 2 == 1:
            return -1
        return self.hand_refusal(player, tiles_of(numbers))

    def hand_refusal(self, player, hand):
        """The refusal of that hand, when it's over, that is told first, or 0."""
        if not all([self.seen.has_tile(tile) for tile in hand]):
            return -1
        if player in self.seen.shown:
            return -5
        if len(hand) != self.seen.room[player] or len(set(hand)) != len(hand):
            return -4
        if any([self.seen.lies(tile) for tile in hand]):
            return -4
        if self.seen.deals_with_hand(player, hand) == 0:
            return -7
        return 0

    def score(self):
        """Answers if somebody has won, who, what all hands count, and each."""
        if not self.has_round():
            return [-2]
        if not (self.seen.is_over() and self.seen.is_all_shown()):
            return [-3]
        counts = self.seen.counts()
        winner = self.seen.winner()
        return [int(winner >= 0), winner, sum(counts)] + counts

    def now(self):
        """Answers if it's over, how it stands, the rest, passes, and tiles known."""
        rest = self.seen.room[self.seen.players]
        told = [int(self.seen.is_over())] + self.seen.stands()
        return told + [rest, self.seen.passes, len(self.seen.known)]

    def tell_line(self):
        """Answers how many tiles lie, and of each its left and right number."""
        told = [len(self.seen.line)]
        for tile in self.seen.line:
            told.extend(tile)
        return told
