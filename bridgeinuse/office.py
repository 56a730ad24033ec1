"""The office: takes a line of calls on one bridge and gives back what each of them answers."""

from bridgeinuse.bridge import NUMBERS_OF_A_SPAN
from bridgeinuse.lane import CROSSES, GAVE_UP, WAITS
from bridgeinuse.records import FOUND, MENDED, NO_SOURCE, NOT_IN_SIGHT, PUT_RIGHT, STRUCK
from bridgeinuse.session import Session

OUT_OF_RANGE = -1
NOT_THERE = -2
NOT_SO_NOW = -4
FULL = -5
TOO_HEAVY = -6
NEVER = -6
CLOSED = -7

MOST_TURN = 20
MOST_SPANS = 12
# The least and the most of each number that a span is told by.
SPAN_RANGES = ((1, 5), (1, 1000), (0, 100), (0, 100))
MOST_DAYS = 10000
LAST_DAY = 100000
MOST_CRACK = 1000
MOST_WEIGHT = 1000
MOST_TICKS = 1000
MOST_ENTRIES = 60
MOST_VEHICLES = 60
MOST_POSTINGS = 60
MOST_DAYS_BETWEEN = 500
MOST_LIMIT = 1000


def with_length(numbers):
    return [len(numbers)] + numbers


def one_behind_another(things):
    numbers = []
    for thing in things:
        numbers.extend(thing)
    return numbers


def are_spans(numbers):
    many = len(numbers) // NUMBERS_OF_A_SPAN
    if len(numbers) % NUMBERS_OF_A_SPAN != 0 or not 1 <= many <= MOST_SPANS:
        return False
    for place, number in enumerate(numbers):
        least = SPAN_RANGES[place % NUMBERS_OF_A_SPAN][0]
        most = SPAN_RANGES[place % NUMBERS_OF_A_SPAN][1]
        if not least <= number <= most:
            return False
    return True


def answer_begins(session):
    turn = session.take()
    spans = session.take_row()
    if not 1 <= turn <= MOST_TURN or not are_spans(spans):
        return [OUT_OF_RANGE]
    session.begin_bridge(turn, spans)
    return [len(session.bridge.lane.cell_spans)]


def answer_day(session):
    days = session.take()
    bridge = session.bridge
    if not 1 <= days <= MOST_DAYS:
        return [OUT_OF_RANGE]
    if bridge.records.today + days > LAST_DAY or is_posted_out(bridge):
        return [FULL]
    left = bridge.clear_lane()
    sent_away = bridge.begin_day(days)
    return [bridge.records.today] + with_length(left) + with_length(sent_away)


def is_posted_out(bridge):
    return len(bridge.records.postings) >= MOST_POSTINGS


def is_file_full(records):
    return len(records.entries) >= MOST_ENTRIES


def answer_found(session):
    part = session.take()
    day = session.take()
    crack = session.take()
    return enter_crack(session.bridge.records, FOUND, part, day, crack)


def answer_mended(session):
    part = session.take()
    day = session.take()
    return enter_crack(session.bridge.records, MENDED, part, day, 0)


def enter_crack(records, kind, part, day, crack):
    if part >= len(records.parts):
        return [NOT_THERE]
    if day > records.today or crack > MOST_CRACK:
        return [OUT_OF_RANGE]
    if is_file_full(records):
        return [FULL]
    return [records.enter_crack(kind, part, day, crack)]


def answer_strike(session):
    about = session.take()
    records = session.bridge.records
    if about >= len(records.entries):
        return [NOT_THERE]
    # Only entries found or mended that aren't struck count.
    if about not in records.counting_now():
        return [NOT_SO_NOW]
    if is_file_full(records):
        return [FULL]
    return [records.enter_change(STRUCK, about, 0)]


def answer_right(session):
    about = session.take()
    crack = session.take()
    records = session.bridge.records
    if about >= len(records.entries):
        return [NOT_THERE]
    if about not in records.counting_now() or records.entries[about].kind != FOUND:
        return [NOT_SO_NOW]
    if crack > MOST_CRACK:
        return [OUT_OF_RANGE]
    if is_file_full(records):
        return [FULL]
    return [records.enter_change(PUT_RIGHT, about, crack)]


def answer_post(session):
    bridge = session.bridge
    if is_posted_out(bridge):
        return [FULL]
    if len(bridge.lane.crossing) > 0:
        return [NOT_SO_NOW]
    sent_away = bridge.post_today()
    return [bridge.last_posted()] + with_length(sent_away)


def answer_comes(session):
    side = session.take()
    weight = session.take()
    lane = session.bridge.lane
    if session.bridge.closed:
        return [CLOSED]
    if side > 1 or not 1 <= weight <= MOST_WEIGHT:
        return [OUT_OF_RANGE]
    if len(lane.vehicles) >= MOST_VEHICLES:
        return [FULL]
    if weight > lane.least_limit():
        return [TOO_HEAVY]
    return [lane.join_queue(side, weight)]


def answer_gives(session):
    number = session.take()
    lane = session.bridge.lane
    if number >= len(lane.vehicles):
        return [NOT_THERE]
    vehicle = lane.vehicles[number]
    if vehicle.status != WAITS:
        return [NOT_SO_NOW]
    lane.leave_queue(vehicle, GAVE_UP)
    return [lane.how_many_wait()]


def answer_ticks(session):
    many = session.take()
    bridge = session.bridge
    if not 1 <= many <= MOST_TICKS:
        return [OUT_OF_RANGE]
    left = bridge.tick_by_day(many)
    return [bridge.lane.time] + with_length(left)


def answer_shut(session):
    hand = session.take()
    bridge = session.bridge
    if hand > 1:
        return [OUT_OF_RANGE]
    bridge.shut_by_hand = hand == 1
    return [len(bridge.lane.crossing)]


def answer_where(session):
    number = session.take()
    lane = session.bridge.lane
    if number >= len(lane.vehicles):
        return [NOT_THERE]
    vehicle = lane.vehicles[number]
    if vehicle.status == WAITS:
        more = lane.waiting[vehicle.side].index(vehicle)
    elif vehicle.status == CROSSES:
        more = vehicle.cell
    else:
        more = vehicle.ended
    return [vehicle.status] + with_length([more])


def answer_when(session):
    number = session.take()
    bridge = session.bridge
    if number >= len(bridge.lane.vehicles):
        return [NOT_THERE]
    if not bridge.will_leave(bridge.lane.vehicles[number]):
        return [NEVER]
    return [bridge.lane.ticks_till_left(number, not bridge.is_shut())]


def answer_loads(session):
    lane = session.bridge.lane
    return [len(lane.crossing)] + with_length(lane.span_loads())


def answer_queue(session):
    side = session.take()
    if side > 1:
        return [OUT_OF_RANGE]
    numbers = [v.number for v in session.bridge.lane.waiting[side]]
    return [len(numbers)] + with_length(numbers)


# A source is told as its number and 1, so that 0 tells that there's none.
def told_source(source):
    return 0 if source == NO_SOURCE else source + 1


def is_beyond_file(records, day, n):
    return day > LAST_DAY or n > len(records.entries)


def answer_known(session):
    part = session.take()
    day = session.take()
    n = session.take()
    records = session.bridge.records
    if part >= len(records.parts):
        return [NOT_THERE]
    if is_beyond_file(records, day, n):
        return [OUT_OF_RANGE]
    known = records.known_on(records.counting(n), day)[part]
    return [known.crack] + with_length([told_source(known.source), known.bears])


def answer_limit(session):
    day = session.take()
    n = session.take()
    records = session.bridge.records
    if is_beyond_file(records, day, n):
        return [OUT_OF_RANGE]
    known = records.known_on(records.counting(n), day)
    bearing = [each.bears for each in known]
    weakest = bearing.index(min(bearing))
    return [bearing[weakest]] + with_length([weakest, told_source(known[weakest].source), known[weakest].crack])


def answer_wrong(session):
    first = session.take()
    last = session.take()
    records = session.bridge.records
    if last < first or last > records.today or last - first > MOST_DAYS_BETWEEN:
        return [OUT_OF_RANGE]
    wrong = records.wrong_days(first, last)
    if len(wrong) == 0:
        return [0]
    return [len(wrong)] + with_length([wrong[0][0], max([excess for day, excess in wrong])])


def answer_falls(session):
    much = session.take()
    if not 1 <= much <= MOST_LIMIT:
        return [OUT_OF_RANGE]
    days = session.bridge.records.days_till_below(much)
    return [NEVER if days == NOT_IN_SIGHT else days]


def answer_due(session):
    days = session.take()
    parts = session.bridge.records.due_parts(days)
    return [len(parts)] + with_length(parts)


def answer_exposed(session):
    bridge = session.bridge
    exposed = bridge.exposed_lines()
    who = []
    for day, span, excess in exposed:
        who.extend(bridge.book.lines[(day, span)][2])
    return [len(exposed)] + with_length(one_behind_another(exposed)) + with_length(sorted(set(who)))


def answer_book(session):
    day = session.take()
    if day > session.bridge.records.today:
        return [OUT_OF_RANGE]
    lines = session.bridge.book.lines_of_day(day)
    return [len(lines)] + with_length(one_behind_another(lines))


def answer_state(session):
    bridge = session.bridge
    lane = bridge.lane
    now = [lane.time, lane.open_side, lane.entered, 1 if bridge.shut_by_hand else 0, 1 if bridge.closed else 0,
           len(lane.vehicles), len(bridge.records.entries)]
    spans = one_behind_another(list(zip(lane.sizes, lane.limits)))
    crossing = one_behind_another([(v.number, v.cell) for v in lane.crossing])
    return [bridge.records.today] + with_length(now) + with_length(spans) + with_length(crossing)


ANSWERS_BY_CALL = {
    0: answer_begins,
    1: answer_day,
    2: answer_found,
    3: answer_mended,
    4: answer_strike,
    5: answer_right,
    6: answer_post,
    7: answer_comes,
    8: answer_gives,
    9: answer_ticks,
    10: answer_shut,
    11: answer_where,
    12: answer_when,
    13: answer_loads,
    14: answer_queue,
    15: answer_known,
    16: answer_limit,
    17: answer_wrong,
    18: answer_falls,
    19: answer_due,
    20: answer_exposed,
    21: answer_book,
    22: answer_state,
}


def answers(calls):
    session = Session(calls)
    given = []
    while not session.is_done():
        answer = ANSWERS_BY_CALL[session.take()]
        given.extend(with_length(answer(session)))
    return given
