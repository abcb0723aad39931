"""The interface: calls handed in as one list, answers given back as one."""

from dominotable.watcher import Watcher

BEGIN = 1
KNOW = 2
PLAY = 3
PASS = 4
DEALS = 5

# By call, from begin to deals, how many numbers stand behind its own.
LENGTHS = {1: 4, 2: 3, 3: 3, 4: 0, 5: 0}


def answers(calls):
    """What the calls answer, one behind another, on a new table."""
    watcher = Watcher()
    told = []
    at = 0
    while at < len(calls):
        behind = at + 1 + LENGTHS[calls[at]]
        answer = answer_of(watcher, calls[at], calls[at + 1:behind])
        told.append(len(answer))
        told.extend(answer)
        at = behind
    return told


def answer_of(watcher, call, numbers):
    """What one call answers."""
    if call == BEGIN:
        return watcher.begin(numbers[0], numbers[1], numbers[2], numbers[3])
    if call == KNOW:
        return watcher.know(numbers[0], numbers[1], numbers[2])
    if call == PLAY:
        return watcher.play(numbers[0], numbers[1], numbers[2])
    if call == PASS:
        return watcher.pass_by()
    return watcher.count_fitting()
