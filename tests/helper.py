"""Writes calls as the interface asks for them, and takes the answers apart."""

from bridgeinuse.office import ANSWERS_BY_CALL, answers
from bridgeinuse.session import Session

MOST = 4294967295


def begins(turn, *spans):
    numbers = [number for span in spans for number in span]
    return [0, turn, len(numbers)] + numbers


def begins_raw(turn, numbers):
    return [0, turn, len(numbers)] + list(numbers)


def day(days):
    return [1, days]


def found(part, on_day, crack):
    return [2, part, on_day, crack]


def mended(part, on_day):
    return [3, part, on_day]


def strike(entry):
    return [4, entry]


def right(entry, crack):
    return [5, entry, crack]


def post():
    return [6]


def comes(side, weight):
    return [7, side, weight]


def gives(vehicle):
    return [8, vehicle]


def ticks(many):
    return [9, many]


def shut(hand):
    return [10, hand]


def where(vehicle):
    return [11, vehicle]


def take_apart(given, many):
    taken = []
    place = 0
    for _ in range(many):
        size = given[place]
        taken.append(given[place + 1:place + 1 + size])
        assert len(taken[-1]) == size, "an answer is shorter than told"
        place += 1 + size
    assert place == len(given), "more is answered than was asked"
    return taken


def ask(*calls):
    """What each call answers: a list a call."""
    line = [number for call in calls for number in call]
    return take_apart(answers(line), len(calls))


def last(*calls):
    return ask(*calls)[-1]


def sound_span(cells, bears):
    return (cells, bears, 0, 0)


def bridge_after(*calls):
    """The bridge itself behind these calls, for what no call tells yet."""
    session = Session([number for call in calls for number in call])
    while not session.is_done():
        ANSWERS_BY_CALL[session.take()](session)
    return session.bridge
