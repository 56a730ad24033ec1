"""Writes calls as the interface asks for them, and takes the answers apart."""

from bridgeinuse.office import answers

MOST = 4294967295


def begins(turn, *spans):
    numbers = [number for span in spans for number in span]
    return [0, turn, len(numbers)] + numbers


def begins_raw(turn, numbers):
    return [0, turn, len(numbers)] + list(numbers)


def day(days):
    return [1, days]


def found(part, on_day, crack):
    return [2, part, on_day, crack]


def mended(part, on_day):
    return [3, part, on_day]


def strike(entry):
    return [4, entry]


def right(entry, crack):
    return [5, entry, crack]


def post():
    return [6]


def comes(side, weight):
    return [7, side, weight]


def gives(vehicle):
    return [8, vehicle]


def ticks(many):
    return [9, many]


def shut(hand):
    return [10, hand]


def where(vehicle):
    return [11, vehicle]


def when(vehicle):
    return [12, vehicle]


def loads():
    return [13]


def queue(side):
    return [14, side]


def known(part, on_day, n):
    return [15, part, on_day, n]


def limit(on_day, n):
    return [16, on_day, n]


def wrong(first, to):
    return [17, first, to]


def falls(much):
    return [18, much]


def due(days):
    return [19, days]


def exposed():
    return [20]


def book(on_day):
    return [21, on_day]


def state():
    return [22]


def take_apart(given, many):
    taken = []
    place = 0
    for _ in range(many):
        size = given[place]
        taken.append(given[place + 1:place + 1 + size])
        assert len(taken[-1]) == size, "an answer is shorter than told"
        place += 1 + size
    assert place == len(given), "more is answered than was asked"
    return taken


def ask(*calls):
    """What each call answers: a list a call."""
    return take_apart(answers(flat(calls)), len(calls))


def last(*calls):
    return ask(*calls)[-1]


def sound_span(cells, bears):
    return (cells, bears, 0, 0)


def flat(calls):
    return [number for call in calls for number in call]


def lists_of(answer):
    """The lists behind an answer's number."""
    lists = []
    place = 1
    while place < len(answer):
        lists.append(answer[place + 1:place + 1 + answer[place]])
        assert len(lists[-1]) == answer[place], "a list is shorter than told"
        place += 1 + answer[place]
    return lists


def closing(part=0):
    """Calls behind which a bridge is closed whose part loses by a crack."""
    return [found(part, 0, 1000), post()]
