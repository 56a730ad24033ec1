"""The book, what of it is exposed, and book of promise 7."""

import unittest

from tests.helper import (MOST, ask, begins, book, closing, comes, day, exposed, found, gives, known, last, mended, post, right,
                          shut, sound_span, strike, ticks)

TWO = (sound_span(2, 10), sound_span(2, 10))
LOSES = (2, 10, 1, 0)


class Book(unittest.TestCase):
    def test_nothing_without_a_vehicle_on_the_bridge(self):
        self.assertEqual(last(book(0)), [0, 0])
        self.assertEqual(ask(begins(1, *TWO), comes(0, 1), shut(1), ticks(9), book(0), day(3), book(0), book(3))[-4:],
                         [[0, 0], [3, 0, 0], [0, 0], [0, 0]])

    def test_each_span_that_somebody_was_on(self):
        self.assertEqual(last(begins(1, *TWO), comes(0, 6), ticks(1), book(0)), [1, 3, 0, 6, 1])
        self.assertEqual(last(begins(1, *TWO), comes(0, 6), ticks(3), book(0)), [2, 6, 0, 6, 1, 1, 6, 3])
        self.assertEqual(last(begins(1, *TWO), ticks(5), comes(1, 6), ticks(1), book(0)), [1, 3, 1, 6, 6])

    def test_by_spans_though_they_were_borne_from_the_right(self):
        calls = [begins(1, *TWO, *TWO), comes(1, 6), ticks(8)]
        self.assertEqual(last(*calls, book(0)), [4, 12, 0, 6, 7, 1, 6, 5, 2, 6, 3, 3, 6, 1])

    def test_the_most_at_the_end_of_a_tick(self):
        self.assertEqual(last(begins(9, *TWO), comes(0, 3), comes(0, 4), ticks(9), book(0)), [2, 6, 0, 7, 2, 1, 7, 4])

    def test_the_first_time_of_the_most(self):
        # 6 at the time 1, 6 again when the second one is there alone.
        self.assertEqual(last(begins(9, *TWO), comes(0, 6), comes(0, 6), ticks(20), book(0)), [2, 6, 0, 6, 1, 1, 6, 3])

    def test_a_later_greater_one_is_written_over_it(self):
        calls = [begins(9, *TWO), comes(0, 6), ticks(5), comes(1, 7), ticks(9)]
        self.assertEqual(last(*calls, book(0)), [2, 6, 0, 7, 8, 1, 7, 6])

    def test_a_later_lesser_one_is_not(self):
        calls = [begins(9, *TWO), comes(0, 6), ticks(5), comes(1, 5), ticks(9)]
        self.assertEqual(last(*calls, book(0)), [2, 6, 0, 6, 1, 1, 6, 3])

    def test_at_the_end_of_a_tick_alone(self):
        # At one tick the first leaves and the second enters: both together were never on it.
        self.assertEqual(last(begins(9, sound_span(1, 10)), comes(0, 5), comes(0, 4), ticks(9), book(0)), [1, 3, 0, 5, 1])

    def test_each_day_of_its_own(self):
        calls = [begins(9, sound_span(1, 10)), comes(0, 5), ticks(5), day(3), comes(0, 4), ticks(5), day(1)]
        self.assertEqual(ask(*calls, *map(book, range(5)))[-5:], [[1, 3, 0, 5, 1], [0, 0], [0, 0], [1, 3, 0, 4, 6], [0, 0]])

    def test_today_too(self):
        calls = [begins(9, sound_span(1, 10)), day(7), comes(0, 5), ticks(1)]
        self.assertEqual(ask(*calls, book(7), ticks(1), book(7), comes(0, 6), ticks(1), book(7))[4:],
                         [[1, 3, 0, 5, 1], [2, 1, 0], [1, 3, 0, 5, 1], [1], [3, 0], [1, 3, 0, 6, 3]])

    def test_the_ticks_of_a_night_count_to_the_day_before_it(self):
        calls = [begins(9, *TWO), day(2), comes(0, 3), comes(0, 4), ticks(2)]
        self.assertEqual(ask(*calls, book(2), day(7), book(2), book(9))[-4:],
                         [[1, 3, 0, 7, 2], [9, 2, 0, 1, 0], [2, 6, 0, 7, 2, 1, 7, 4], [0, 0]])

    def test_a_day_behind_today(self):
        self.assertEqual(ask(book(1), book(MOST), day(5), book(5), book(6), book(MOST)),
                         [[-1], [-1], [5, 0, 0], [0, 0], [-1], [-1]])

    def test_what_is_entered_or_posted_changes_nothing_in_it(self):
        calls = [begins(9, (1, 10, 1, 0)), comes(0, 5), ticks(1), found(0, 0, 9), day(1), post(), mended(0, 1), gives(0)]
        self.assertEqual(last(*calls, book(0)), [1, 3, 0, 5, 1])

    def test_begins_makes_it_new(self):
        self.assertEqual(ask(comes(0, 1), ticks(1), begins(1, *TWO), book(0), exposed())[-2:], [[0, 0], [0, 0, 0]])

    def test_a_refused_begins_does_not(self):
        self.assertEqual(last(comes(0, 1), ticks(1), begins(0, *TWO), book(0)), [1, 3, 0, 1, 1])

    def test_a_refused_day_writes_nothing(self):
        self.assertEqual(last(begins(9, *TWO), comes(0, 6), ticks(1), day(0), day(10001), book(0)), [1, 3, 0, 6, 1])

    def test_all_twelve_spans(self):
        calls = [begins(9, *[sound_span(5, 1000)] * 12), comes(1, 1000), ticks(60)]
        lines = [number for span in range(12) for number in (span, 1000, 56 - 5 * span)]
        self.assertEqual(last(*calls, book(0)), [12, 36] + lines)


class Exposed(unittest.TestCase):
    def test_nothing_in_the_book(self):
        self.assertEqual(last(exposed()), [0, 0, 0])
        self.assertEqual(last(begins(1, LOSES), found(0, 0, 1000), exposed()), [0, 0, 0])

    def test_nothing_that_bore_less(self):
        self.assertEqual(last(begins(1, LOSES), comes(0, 10), ticks(3), day(5), exposed()), [0, 0, 0])

    def test_found_later(self):
        calls = [begins(1, LOSES), comes(0, 7), ticks(3), day(5), found(0, 0, 4)]
        self.assertEqual(last(*calls, exposed()), [1, 3, 0, 0, 1, 1, 0])

    def test_just_what_it_bears_is_not(self):
        calls = [begins(1, LOSES), comes(0, 7), ticks(3), day(5), found(0, 0, 3)]
        self.assertEqual(last(*calls, exposed()), [0, 0, 0])

    def test_found_of_a_later_day_than_it_bore_something(self):
        calls = [begins(1, LOSES), day(2), comes(0, 7), ticks(3), day(5)]
        self.assertEqual(last(*calls, found(0, 3, 4), exposed()), [0, 0, 0])
        self.assertEqual(last(*calls, found(0, 2, 4), exposed()), [1, 3, 2, 0, 1, 1, 0])

    def test_today_ahead_of_its_night(self):
        # Entered while it's on the bridge, and not posted.
        calls = [begins(1, LOSES), comes(0, 7), ticks(1), found(0, 0, 9)]
        self.assertEqual(ask(*calls, exposed(), day(1), exposed())[-3:],
                         [[1, 3, 0, 0, 6, 1, 0], [1, 1, 0, 0], [1, 3, 0, 0, 6, 1, 0]])

    def test_what_bears_nothing_any_more(self):
        calls = [begins(1, LOSES), comes(0, 7), ticks(1), found(0, 0, 1000)]
        self.assertEqual(last(*calls, exposed()), [1, 3, 0, 0, 7, 1, 0])

    def test_closed_it_is_told_still(self):
        calls = [begins(1, LOSES), comes(0, 7), ticks(3), *closing()]
        self.assertEqual(last(*calls, exposed()), [1, 3, 0, 0, 7, 1, 0])

    def test_by_all_entries_that_there_are_now(self):
        calls = [begins(1, LOSES), comes(0, 7), ticks(3), day(5)]
        told = ask(*calls, found(0, 0, 9), exposed(), right(0, 4), exposed(), strike(0), exposed(), found(0, 0, 8), exposed(),
                   mended(0, 0), exposed())
        self.assertEqual(told[5::2], [[1, 3, 0, 0, 6, 1, 0], [1, 3, 0, 0, 1, 1, 0], [0, 0, 0], [1, 3, 0, 0, 5, 1, 0], [0, 0, 0]])

    def test_mended_on_a_later_day_it_is_exposed_still(self):
        calls = [begins(1, LOSES), comes(0, 7), ticks(3), day(5), found(0, 0, 4), mended(0, 1)]
        self.assertEqual(last(*calls, exposed()), [1, 3, 0, 0, 1, 1, 0])

    def test_what_is_posted_does_not_count(self):
        # It was known to bear 5 when 7 crossed on what had been posted before.
        calls = [begins(1, LOSES), comes(0, 7), found(0, 0, 5), ticks(5)]
        self.assertEqual(last(*calls, exposed()), [1, 3, 0, 0, 2, 1, 0])

    def test_growth_taken_on_that_day(self):
        # A unit a day: on the day 3 it bears 7, and of a crack of 2 on the day 1 it's 6.
        calls = [begins(1, (1, 10, 1, 100)), day(3), comes(0, 7), ticks(9), day(9)]
        self.assertEqual(ask(*calls, exposed(), found(0, 1, 2), exposed(), found(0, 3, 3), exposed())[-5::2],
                         [[0, 0, 0], [1, 3, 3, 0, 1, 1, 0], [0, 0, 0]])

    def test_days_rising_of_one_day_by_spans(self):
        spans = ((1, 10, 1, 0), (1, 10, 1, 0), (1, 10, 1, 0))
        # From the right on the day 0, from the left on the day 4.
        calls = [begins(1, *spans), comes(1, 8), ticks(9), day(4), comes(0, 9), ticks(9), day(1)]
        self.assertEqual(last(*calls, found(2, 0, 4), found(0, 0, 3), exposed()),
                         [4, 12, 0, 0, 1, 0, 2, 2, 4, 0, 2, 4, 2, 3, 2, 0, 1])

    def test_one_part_alone(self):
        calls = [begins(1, LOSES, LOSES, LOSES), comes(0, 7), ticks(9), found(1, 0, 5)]
        self.assertEqual(last(*calls, exposed()), [1, 3, 0, 1, 2, 1, 0])

    def test_who_was_on_it_then_rising_each_once(self):
        # Span 0 bore 9 of the vehicles 0 and 2, span 1 too; number 1 came from the other side.
        calls = [begins(9, (2, 10, 1, 0), (2, 10, 1, 0)), comes(0, 4), comes(1, 1), comes(0, 5), ticks(20), found(0, 0, 8),
                 found(1, 0, 8)]
        self.assertEqual(last(*calls, exposed()), [2, 6, 0, 0, 7, 0, 1, 7, 2, 0, 2])

    def test_only_those_at_the_first_time_of_the_most(self):
        calls = [begins(9, (1, 10, 1, 0)), comes(0, 4), comes(0, 6), comes(0, 6), comes(0, 5), ticks(20), found(0, 0, 9)]
        self.assertEqual(last(*calls, exposed()), [1, 3, 0, 0, 5, 1, 1])

    def test_rising_though_the_days_tell_them_otherwise(self):
        # Number 1 crosses on the day 0, number 0 on the day 1.
        calls = [begins(9, (1, 10, 1, 0)), comes(1, 4), comes(0, 6), ticks(1), day(1), ticks(1), found(0, 0, 9)]
        self.assertEqual(last(*calls, exposed()), [2, 6, 0, 0, 5, 1, 0, 3, 2, 0, 1])

    def test_the_ticks_of_a_night(self):
        # The heavier one is on span 1 in the night alone, and that bears less from the day 1 on.
        calls = [begins(9, sound_span(1, 10), (1, 10, 1, 0)), comes(0, 8), ticks(1), day(1)]
        self.assertEqual(last(*calls, found(1, 1, 9), exposed()), [0, 0, 0])
        self.assertEqual(last(*calls, found(1, 0, 9), exposed()), [1, 3, 0, 1, 7, 1, 0])

    def test_it_tells_what_book_and_known_tell(self):
        calls = [begins(9, LOSES, LOSES), comes(0, 3), comes(0, 7), ticks(9), day(3), found(1, 0, 2)]
        self.assertEqual(ask(*calls, book(0), known(1, 0, 1), exposed())[-3:],
                         [[2, 6, 0, 10, 2, 1, 10, 4], [2, 2, 1, 8], [1, 3, 0, 1, 2, 2, 0, 1]])

    def test_many_days_and_spans(self):
        spans = [(1, 1000, 1, 0)] * 12
        calls = [begins(20, *spans)] + [call for _ in range(19) for call in (comes(0, 1000), ticks(20), day(1))]
        lines = [number for on_day in range(19) for number in (on_day, 5, 1000)]
        self.assertEqual(last(*calls, found(5, 0, 1000), exposed()), [19, 57] + lines + [19] + list(range(19)))


if __name__ == "__main__":
    unittest.main()
