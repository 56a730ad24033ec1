"""What no call of its own tells yet, but is kept: the book, what was posted, what counts by the first n entries."""

import unittest

from bridgeinuse.records import NO_SOURCE
from tests.helper import begins, bridge_after, comes, day, found, gives, mended, post, right, shut, sound_span, strike, ticks

TWO = (sound_span(2, 10), sound_span(2, 10))


def book(*calls):
    return bridge_after(*calls).book.lines


class TheBook(unittest.TestCase):
    def test_nothing_without_a_vehicle_on_the_bridge(self):
        self.assertEqual(book(begins(1, *TWO), comes(0, 1), shut(1), ticks(9), day(3)), {})

    def test_each_span_that_somebody_was_on(self):
        self.assertEqual(book(begins(1, *TWO), comes(0, 6), ticks(1)), {(0, 0): (6, 1, (0,))})
        self.assertEqual(book(begins(1, *TWO), comes(0, 6), ticks(3)), {(0, 0): (6, 1, (0,)), (0, 1): (6, 3, (0,))})
        self.assertEqual(book(begins(1, *TWO), ticks(5), comes(1, 6), ticks(1)), {(0, 1): (6, 6, (0,))})

    def test_the_most_and_who_was_on_it_then(self):
        self.assertEqual(book(begins(9, *TWO), comes(0, 3), comes(0, 4), ticks(9)),
                         {(0, 0): (7, 2, (0, 1)), (0, 1): (7, 4, (0, 1))})

    def test_the_time_when_it_did_first(self):
        # 6 at the time 1, 6 again when the second one is there alone.
        self.assertEqual(book(begins(9, *TWO), comes(0, 6), comes(0, 6), ticks(20)),
                         {(0, 0): (6, 1, (0,)), (0, 1): (6, 3, (0,))})

    def test_a_later_greater_one_is_written_over_it(self):
        self.assertEqual(book(begins(9, *TWO), comes(0, 6), ticks(5), comes(1, 7), ticks(9)),
                         {(0, 0): (7, 8, (1,)), (0, 1): (7, 6, (1,))})

    def test_a_later_lesser_one_is_not(self):
        self.assertEqual(book(begins(9, *TWO), comes(0, 6), ticks(5), comes(1, 5), ticks(9)),
                         {(0, 0): (6, 1, (0,)), (0, 1): (6, 3, (0,))})

    def test_at_the_end_of_a_tick_alone(self):
        # At one tick the first leaves and the second enters: both together were never on it.
        self.assertEqual(book(begins(9, sound_span(1, 10)), comes(0, 5), comes(0, 4), ticks(9)), {(0, 0): (5, 1, (0,))})

    def test_each_day_of_its_own(self):
        calls = [begins(9, sound_span(1, 10)), comes(0, 5), ticks(5), day(3), comes(0, 4), ticks(5), day(1)]
        self.assertEqual(book(*calls), {(0, 0): (5, 1, (0,)), (3, 0): (4, 6, (1,))})

    def test_the_ticks_of_a_night_count_to_the_day_before_it(self):
        calls = [begins(9, *TWO), day(2), comes(0, 3), comes(0, 4), ticks(2), day(7)]
        self.assertEqual(book(*calls), {(2, 0): (7, 2, (0, 1)), (2, 1): (7, 4, (0, 1))})

    def test_what_is_entered_changes_nothing_in_it(self):
        calls = [begins(9, (1, 10, 1, 0)), comes(0, 5), ticks(1), found(0, 0, 9), day(1), post(), mended(0, 1), gives(0)]
        self.assertEqual(book(*calls), {(0, 0): (5, 1, (0,))})

    def test_begins_makes_it_new(self):
        self.assertEqual(book(comes(0, 1), ticks(1), begins(1, *TWO)), {})

    def test_a_refused_begins_does_not(self):
        self.assertEqual(book(comes(0, 1), ticks(1), begins(0, *TWO)), {(0, 0): (1, 1, (0,))})

    def test_a_refused_day_writes_nothing(self):
        self.assertEqual(book(begins(9, *TWO), comes(0, 6), ticks(1), day(0), day(10001)), {(0, 0): (6, 1, (0,))})


class AtTheBeginning(unittest.TestCase):
    def test_the_part_bears_one_without_loss_or_growth(self):
        self.assertEqual(bridge_after().records.parts, [(1, 0, 0)])


class WhatWasPosted(unittest.TestCase):
    def test_the_beginning_each_night_and_each_posting(self):
        calls = [begins(1, (1, 9, 1, 100)), day(2), found(0, 2, 4), post(), found(0, 2, 1000), post(), day(10)]
        self.assertEqual(bridge_after(*calls).records.postings, [(0, 9), (2, 7), (2, 5), (2, 0), (12, 0)])

    def test_a_refused_one_is_not_posted(self):
        calls = [comes(0, 1), ticks(1), post(), day(0)]
        self.assertEqual(bridge_after(*calls).records.postings, [(0, 1)])

    def test_the_limits_of_the_spans_are_one_at_the_least(self):
        bridge = bridge_after(begins(1, (1, 9, 1, 0), (1, 8, 1, 0)), found(0, 0, 9), post())
        self.assertEqual((bridge.lane.limits, bridge.closed), ([1, 8], True))


class ByTheFirstEntries(unittest.TestCase):
    def setUp(self):
        # It bears 1000, a unit costs 2, and it grows by 10 in a hundred days.
        self.records = bridge_after(begins(1, (1, 1000, 2, 10), (1, 1000, 2, 10)), day(100), found(0, 40, 50),
                                    found(0, 40, 60), right(0, 70), mended(0, 80), found(1, 30, 9), strike(3), right(1, 20),
                                    strike(1)).records

    def known(self, part, on_day, n):
        says = self.records.counting(n)
        return (self.records.source_on(says, part, on_day), self.records.crack_on(says, part, on_day),
                self.records.bears(says, part, on_day))

    def test_none(self):
        self.assertEqual(self.known(0, 0, 0), (NO_SOURCE, 0, 1000))
        self.assertEqual(self.known(0, 100, 0), (NO_SOURCE, 10, 980))

    def test_those_made_by_then(self):
        sources = [self.known(0, 90, n)[:2] for n in range(9)]
        self.assertEqual(sources, [(NO_SOURCE, 9), (0, 55), (1, 65), (1, 65), (3, 1), (3, 1), (1, 65), (1, 25), (0, 75)])

    def test_a_day_before_and_of_the_source(self):
        self.assertEqual(self.known(0, 39, 2), (NO_SOURCE, 4, 992))
        self.assertEqual(self.known(0, 40, 2), (1, 60, 880))
        self.assertEqual(self.known(0, 41, 2), (1, 61, 878))
        self.assertEqual(self.known(0, 79, 4), (1, 64, 872))
        self.assertEqual(self.known(0, 80, 4), (3, 0, 1000))

    def test_the_other_part(self):
        self.assertEqual([self.known(1, 50, n)[:2] for n in (4, 5, 8)], [(NO_SOURCE, 5), (4, 11), (4, 11)])

    def test_days_to_come(self):
        self.assertEqual(self.known(1, 1030, 8), (4, 109, 782))


if __name__ == "__main__":
    unittest.main()
