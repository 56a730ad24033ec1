"""The bridge: its file, its lane and its book, and how a posting and a night join them."""

from bridgeinuse.book import Book
from bridgeinuse.lane import Lane
from bridgeinuse.records import Records

NUMBERS_OF_A_SPAN = 4


class Bridge:
    def __init__(self, turn, spans):
        sizes = spans[0::NUMBERS_OF_A_SPAN]
        sound = spans[1::NUMBERS_OF_A_SPAN]
        costs = spans[2::NUMBERS_OF_A_SPAN]
        growths = spans[3::NUMBERS_OF_A_SPAN]
        self.records = Records(list(zip(sound, costs, growths)))
        self.lane = Lane(turn, sizes, sound)
        self.book = Book()
        self.shut_by_hand = False
        self.closed = False
        self.post_today()

    def post_today(self):
        bearing = self.records.all_bear(self.records.counting_now(), self.records.today)
        self.records.post(min(bearing))
        self.closed = min(bearing) == 0
        return self.lane.change_limits([max(1, much) for much in bearing])

    def last_posted(self):
        return self.records.postings[-1][1]

    def tick(self, may_enter):
        left = self.lane.tick(may_enter)
        self.book.write_tick(self.records.today, self.lane.time, self.lane.who_by_span())
        return left

    def tick_by_day(self, many):
        left = []
        for number in range(many):
            left.extend(self.tick(not self.closed and not self.shut_by_hand))
        return left

    # It ends: the limits haven't changed since those on the bridge came, and nobody is
    # heavier than the least of them, so whoever is farthest on moves at each tick.
    def clear_lane(self):
        left = []
        while len(self.lane.crossing) > 0:
            left.extend(self.tick(False))
        return left

    def begin_day(self, days):
        self.records.pass_days(days)
        return self.post_today()
