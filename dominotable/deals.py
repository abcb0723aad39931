"""In how many ways tiles can be dealt to places."""


def count_deals(choices, room):
    """How many deals there are.

    choices holds for each tile the places where it may be, room for each
    place how many tiles it has. There are as many tiles as there is room.
    """
    return sum(ways_by_room_left(choices, room).values())


def count_by_place(others, places, room):
    """By place, how many deals there are in which it has one certain tile.

    places holds the choices of that tile, others those of all others.
    """
    counts = [0] * len(room)
    # That tile goes last, to where the others left room for it: so all its
    # places are counted at once.
    ways = ways_by_room_left(others, room)
    for left in ways:
        place = left.index(1)
        if place in places:
            counts[place] = ways[left]
    return counts


def ways_by_room_left(choices, room):
    """In how many ways the tiles can be dealt, by the room that is left."""
    # Ways that leave the same room are counted together: there are few
    # sorts of room left, where the deals themselves may be very many.
    ways = {tuple(room): 1}
    for places in choices:
        ways = with_one_dealt(ways, places)
    return ways


def with_one_dealt(ways, places):
    """The ways by the room left, after one more tile went to a place."""
    after = {}
    for room in ways:
        for place in places:
            if room[place] > 0:
                left = room[:place] + (room[place] - 1,) + room[place + 1:]
                after[left] = after.get(left, 0) + ways[room]
    return after
