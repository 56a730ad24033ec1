"""The bridge: its file, its lane and its book, and how a posting and a night join them."""

from bridgeinuse.book import Book
from bridgeinuse.lane import CROSSES, WAITS, Lane
from bridgeinuse.records import Records

NUMBERS_OF_A_SPAN = 4


class Bridge:
    def __init__(self, turn, spans):
        sizes = spans[0::NUMBERS_OF_A_SPAN]
        sound = spans[1::NUMBERS_OF_A_SPAN]
        costs = spans[2::NUMBERS_OF_A_SPAN]
        growths = spans[3::NUMBERS_OF_A_SPAN]
        self.records = Records(list(zip(sound, costs, growths)))
        self.lane = Lane(turn, sizes, sound)
        self.book = Book()
        self.shut_by_hand = False
        self.closed = False
        self.post_today()

    def post_today(self):
        bearing = self.records.all_bear(self.records.counting_now(), self.records.today)
        self.records.post(min(bearing))
        self.closed = min(bearing) == 0
        return self.lane.change_limits([max(1, much) for much in bearing])

    def last_posted(self):
        return self.records.postings[-1][1]

    def is_shut(self):
        return self.closed or self.shut_by_hand

    def tick(self, may_enter):
        left = self.lane.tick(may_enter)
        self.book.write_tick(self.records.today, self.lane.time, self.lane.who_by_span())
        return left

    def tick_by_day(self, many):
        left = []
        for number in range(many):
            left.extend(self.tick(not self.is_shut()))
        return left

    # It ends: the limits haven't changed since those on the bridge came, and nobody is
    # heavier than the least of them, so whoever is farthest on moves at each tick.
    def clear_lane(self):
        left = []
        while len(self.lane.crossing) > 0:
            left.extend(self.tick(False))
        return left

    def begin_day(self, days):
        self.records.pass_days(days)
        return self.post_today()

    # Once on the bridge one leaves it in any case; of those that wait each gets its turn,
    # since none of them is heavier than the least limit.
    def will_leave(self, vehicle):
        return vehicle.status == CROSSES or (vehicle.status == WAITS and not self.is_shut())

    # Days rising, of one day by spans: the day, the span, by how much too much.
    def exposed_lines(self):
        says = self.records.counting_now()
        exposed = []
        for key in sorted(self.book.lines):
            excess = self.book.lines[key][0] - self.records.all_bear(says, key[0])[key[1]]
            if excess > 0:
                exposed.append((key[0], key[1], excess))
        return exposed
