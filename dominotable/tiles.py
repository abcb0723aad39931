"""Tiles: pairs of numbers, kept with the lesser number first."""


def all_tiles(greatest):
    """Each pair of numbers from 0 to the greatest once, alike ones too."""
    tiles = []
    for lesser in range(greatest + 1):
        for greater in range(lesser, greatest + 1):
            tiles.append((lesser, greater))
    return tiles


def tile_of(one, other):
    """The tile with these two numbers, in whichever order they are told."""
    return (min(one, other), max(one, other))


def other_number(tile, number):
    """The tile's number beside the one given; for alike ones the same."""
    if tile[0] == number:
        return tile[1]
    return tile[0]
