"""In how many ways tiles can be dealt to places."""


def count_deals(choices, room):
    """How many deals there are.

    choices holds for each tile the places where it may be, room for each
    place how many tiles it has. There are as many tiles as there is room.
    """
    # Ways that leave the same room are counted together: there are few
    # sorts of room left, where the deals themselves may be very many.
    ways = {tuple(room): 1}
    for places in choices:
        ways = with_one_dealt(ways, places)
    return sum(ways.values())


def with_one_dealt(ways, places):
    """The ways by the room left, after one more tile went to a place."""
    after = {}
    for room in ways:
        for place in places:
            if room[place] > 0:
                left = room[:place] + (room[place] - 1,) + room[place + 1:]
                after[left] = after.get(left, 0) + ways[room]
    return after
