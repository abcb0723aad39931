"""A round as it is seen: what lies, who passed, and what is known."""

from dominotable.deals import count_by_place, count_deals
from dominotable.tiles import all_tiles, other_number, points_of

LEFT = 0
RIGHT = 1


class Round:
    """One round.

    A place is a player's number or, behind the last player's, the rest's.
    """

    def __init__(self, players, each, greatest, first):
        self.players = players
        self.greatest = greatest
        # -1 when it is over.
        self.turn = first
        self.line = []
        self.hidden = all_tiles(greatest)
        # How many tiles each place has.
        self.room = [each] * players + [len(self.hidden) - players * each]
        # By tile, the place where it is known to be.
        self.known = {}
        # (player, number) for each number that a player lacks by passes.
        self.lacks = {}
        # How many passes there are one behind another.
        self.passes = 0
        # By player, what the hand counts that they have shown.
        self.shown = {}

    def has_tile(self, tile):
        """Whether there is such a tile in this round."""
        return 0 <= tile[0] and tile[1] <= self.greatest

    def has_place(self, place):
        """Whether there is such a player, or it is the rest."""
        return 0 <= place <= self.players

    def has_player(self, player):
        """Whether there is such a player."""
        return 0 <= player < self.players

    def is_over(self):
        """Whether nobody has a turn any more."""
        return self.turn < 0

    def lies(self, tile):
        """Whether a tile of this round is on the table."""
        return tile not in self.hidden

    def ends(self):
        """The left end and the right end; -1 and -1 if nothing lies."""
        if len(self.line) == 0:
            return (-1, -1)
        return (self.line[0][0], self.line[-1][1])

    def fits(self, tile, side):
        """Whether the tile can be laid at that side."""
        return len(self.line) == 0 or self.ends()[side] in tile

    def stands(self):
        """How it stands: the turn, both ends, the players' tiles."""
        left, right = self.ends()
        return [self.turn, left, right] + self.room[:self.players]

    def places_of(self, tile):
        """Where the tile may be by passes and by what is known of it alone."""
        if tile in self.known:
            return [self.known[tile]]
        return [place for place in range(self.players + 1) if not self.is_lacking(place, tile)]

    def is_lacking(self, place, tile):
        """Whether passes told that the place has no such tile."""
        return (place, tile[0]) in self.lacks or (place, tile[1]) in self.lacks

    def deals(self):
        """How many deals fit."""
        return count_deals([self.places_of(tile) for tile in self.hidden], self.room)

    def deals_by_place(self, tile):
        """By place, how many deals fit in which it has that hidden tile."""
        others = [self.places_of(hidden) for hidden in self.hidden if hidden != tile]
        return count_by_place(others, self.places_of(tile), self.room)

    def deals_with_hand(self, player, hand):
        """How many deals fit in which the player has those hidden tiles."""
        choices = []
        for tile in self.hidden:
            places = self.places_of(tile)
            if tile in hand:
                # A tile that can't be theirs is left without a place then,
                # so that no deal fits.
                places = [place for place in places if place == player]
            choices.append(places)
        return count_deals(choices, self.room)

    def deals_after_pass(self):
        """How many deals would fit if the player whose turn it is passed."""
        left, right = self.ends()
        choices = []
        for tile in self.hidden:
            places = self.places_of(tile)
            if left in tile or right in tile:
                # A tile known to be theirs is left without a place then, so
                # that no deal fits.
                places = [place for place in places if place != self.turn]
            choices.append(places)
        return count_deals(choices, self.room)

    def note_known(self, tile, place):
        """From now on the tile is known to be at that place."""
        self.known[tile] = place

    def note_hand(self, player, hand):
        """The player has shown that hand: it is known to be there."""
        for tile in hand:
            self.note_known(tile, player)
        self.shown[player] = points_of(hand)

    def lay(self, tile, side):
        """The player whose turn it is plays the tile at that side."""
        left, right = self.ends()
        if len(self.line) == 0:
            self.line.append(tile)
        elif side == LEFT:
            self.line.insert(0, (other_number(tile, left), left))
        else:
            self.line.append((right, other_number(tile, right)))
        self.hidden.remove(tile)
        if tile in self.known:
            self.known.pop(tile)
        self.room[self.turn] = self.room[self.turn] - 1
        self.passes = 0
        self.end_turn(self.room[self.turn] == 0)

    def note_pass(self):
        """The player whose turn it is has passed."""
        for number in self.ends():
            self.lacks[(self.turn, number)] = True
        self.passes = self.passes + 1
        self.end_turn(self.passes == self.players)

    def is_all_shown(self):
        """Whether every player has shown their hand."""
        return len(self.shown) == self.players

    def counts(self):
        """What each hand counts, when all are shown."""
        return [self.shown[player] for player in range(self.players)]

    def winner(self):
        """Who has won, when all hands are shown; -1 if nobody has."""
        for player in range(self.players):
            # They have won even if another's hand counts no more.
            if self.room[player] == 0:
                return player
        counts = self.counts()
        least = min(counts)
        if counts.count(least) > 1:
            return -1
        return counts.index(least)

    def end_turn(self, over):
        """The turn goes to the player behind, or to nobody if it is over."""
        if over:
            self.turn = -1
        else:
            self.turn = (self.turn + 1) % self.players
