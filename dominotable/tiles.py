"""Tiles: pairs of numbers, kept with the lesser number first."""


def all_tiles(greatest):
    """Each pair of numbers from 0 to the greatest once, alike ones too."""
    tiles = []
    for lesser in range(greatest + 1):
        for greater in range(lesser, greatest + 1):
            tiles.append((lesser, greater))
    return tiles


def tile_of(one, other):
    """The tile with these two numbers, in whichever order they are told."""
    return (min(one, other), max(one, other))


def tiles_of(numbers):
    """The tiles told by two numbers each, one behind another."""
    return [tile_of(numbers[at], numbers[at + 1]) for at in range(0, len(numbers), 2)]


def other_number(tile, number):
    """The tile's number beside the one given; for alike ones the same."""
    if tile[0] == number:
        return tile[1]
    return tile[0]


def points_of(hand):
    """What a hand counts: the numbers of its tiles."""
    return sum([tile[0] + tile[1] for tile in hand])
