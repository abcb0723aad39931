"""The interface: calls handed in as one list, answers given back as one."""

from dominotable.watcher import Watcher

BEGIN = 1
KNOW = 2
PLAY = 3
PASS = 4
DEALS = 5
MAY = 6
SHOW = 7
SCORE = 8
NOW = 9

# By call, from begin to line, how many numbers stand behind its own; show has
# a row behind these.
LENGTHS = {1: 4, 2: 3, 3: 3, 4: 0, 5: 0, 6: 2, 7: 1, 8: 0, 9: 0, 10: 0}


def answers(calls):
    """What the calls answer, one behind another, on a new table."""
    watcher = Watcher()
    told = []
    at = 0
    while at < len(calls):
        behind = at + 1 + LENGTHS[calls[at]]
        numbers = calls[at + 1:behind]
        row = []
        if calls[at] == SHOW:
            row = calls[behind + 1:behind + 1 + calls[behind]]
            behind = behind + 1 + len(row)
        answer = answer_of(watcher, calls[at], numbers, row)
        told.append(len(answer))
        told.extend(answer)
        at = behind
    return told


def answer_of(watcher, call, numbers, row):
    """What one call answers."""
    if call == BEGIN:
        return watcher.begin(numbers[0], numbers[1], numbers[2], numbers[3])
    if call == KNOW:
        return watcher.know(numbers[0], numbers[1], numbers[2])
    if call == PLAY:
        return watcher.play(numbers[0], numbers[1], numbers[2])
    if call == PASS:
        return watcher.pass_by()
    if call == DEALS:
        return watcher.count_fitting()
    if call == MAY:
        return watcher.may(numbers[0], numbers[1])
    if call == SHOW:
        return watcher.show(numbers[0], row)
    if call == SCORE:
        return watcher.score()
    if call == NOW:
        return watcher.now()
    return watcher.tell_line()
