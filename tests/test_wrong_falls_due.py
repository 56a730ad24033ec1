"""wrong of promise 6; falls and due of promise 7; what was posted."""

import unittest

from bridgeinuse.office import ANSWERS_BY_CALL
from bridgeinuse.session import Session
from tests.helper import (MOST, ask, begins, closing, comes, day, due, falls, found, last, limit, mended, post, right, sound_span,
                          state, strike, ticks, wrong)

LOSES = (1, 10, 1, 0)


class Wrong(unittest.TestCase):
    def test_none_is_the_number_alone(self):
        self.assertEqual(ask(wrong(0, 0), day(5), wrong(0, 5), wrong(3, 3)), [[0], [5, 0, 0], [0], [0]])

    def test_one_day(self):
        self.assertEqual(ask(begins(1, LOSES), found(0, 0, 4), wrong(0, 0))[2:], [[1, 2, 0, 4]])

    def test_days_without_a_posting_of_their_own(self):
        # What was posted on the day 0 counts till the day 4.
        calls = [begins(1, LOSES), day(5), found(0, 2, 4)]
        self.assertEqual(ask(*calls, wrong(0, 5), wrong(0, 1), wrong(0, 2), wrong(3, 4), wrong(5, 5))[-5:],
                         [[4, 2, 2, 4], [0], [1, 2, 2, 4], [2, 2, 3, 4], [1, 2, 5, 4]])

    def test_as_it_was_posted_the_days_between_are_told_by_the_last_posting(self):
        # A unit a day: 10, 9, 8 on the days 0, 1, 2, and posted was 10, then 8 on the day 2.
        calls = [begins(1, (1, 10, 1, 100)), day(2), day(4)]
        self.assertEqual(ask(*calls, wrong(0, 6), wrong(0, 0), wrong(2, 2), wrong(0, 2), wrong(2, 6))[-5:],
                         [[4, 2, 1, 3], [0], [0], [1, 2, 1, 1], [3, 2, 3, 3]])

    def test_less_was_posted_than_it_bears(self):
        calls = [begins(1, LOSES), found(0, 0, 4), post(), day(3), strike(0)]
        self.assertEqual(ask(*calls, wrong(0, 3), found(0, 3, 5), wrong(0, 3))[-3:], [[0], [2], [1, 2, 3, 1]])

    def test_of_several_postings_on_one_day_the_last(self):
        calls = [begins(1, LOSES), found(0, 0, 4), post(), mended(0, 0), post(), found(0, 0, 1), post()]
        self.assertEqual(last(*calls, wrong(0, 0)), [0])
        self.assertEqual(last(*calls, found(0, 0, 3), wrong(0, 0)), [1, 2, 0, 2])
        self.assertEqual(last(*calls, day(3), found(0, 0, 3), wrong(0, 2)), [3, 2, 0, 2])

    def test_by_the_weakest_part(self):
        calls = [begins(1, sound_span(1, 7), LOSES), day(4), found(1, 2, 2)]
        self.assertEqual(ask(*calls, wrong(0, 4), found(1, 3, 4), wrong(0, 4))[-3:], [[0], [1], [2, 2, 3, 1]])

    def test_by_all_entries_that_there_are_now(self):
        calls = [begins(1, LOSES), day(3), found(0, 1, 9), right(0, 2), mended(0, 2), strike(2), found(0, 3, 1)]
        self.assertEqual([last(*calls[:many], wrong(0, 3)) for many in range(2, 8)],
                         [[0], [3, 2, 1, 9], [3, 2, 1, 2], [1, 2, 1, 2], [3, 2, 1, 2], [3, 2, 1, 2]])

    def test_zero_posted_is_never_too_much(self):
        calls = [begins(1, LOSES), *closing(), day(2), mended(0, 1)]
        self.assertEqual(ask(*calls, wrong(0, 2), strike(1), wrong(0, 2))[-3:], [[0], [2], [0]])

    def test_how_much_too_much_at_the_most(self):
        calls = [begins(1, (1, 1000, 1, 0)), day(10), found(0, 2, 5), found(0, 4, 1000), found(0, 6, 7), mended(0, 8)]
        self.assertEqual(last(*calls, wrong(0, 10)), [6, 2, 2, 1000])

    def test_the_first_one_lies_within(self):
        calls = [begins(1, LOSES), day(10), found(0, 2, 5)]
        self.assertEqual(ask(*calls, wrong(4, 7), wrong(10, 10))[-2:], [[4, 2, 4, 5], [1, 2, 10, 5]])

    def test_five_hundred_days_and_one_more(self):
        calls = [begins(1, LOSES), day(1000), found(0, 0, 1)]
        self.assertEqual(ask(*calls, wrong(0, 499), wrong(0, 500), wrong(0, 501), wrong(500, 1000), wrong(499, 1000))[-5:],
                         [[500, 2, 0, 1], [501, 2, 0, 1], [-1], [501, 2, 500, 1], [-1]])

    def test_to_before_from(self):
        self.assertEqual(ask(day(9), wrong(5, 4), wrong(9, 0), wrong(5, 5), wrong(MOST, 0))[1:], [[-1], [-1], [0], [-1]])

    def test_to_behind_today(self):
        self.assertEqual(ask(wrong(0, 1), day(9), wrong(9, 9), wrong(9, 10), wrong(0, MOST), wrong(MOST, MOST)),
                         [[-1], [9, 0, 0], [0], [-1], [-1], [-1]])

    def test_the_last_days_of_all(self):
        calls = [begins(1, (1, 1000, 1, 1))] + [day(10000)] * 10
        # Posted was 100 on the day 90000, and on the day 100000 it's 0: on the last days before 1 is left.
        self.assertEqual(ask(*calls, wrong(99500, 100000), wrong(99999, 99999), wrong(100000, 100000), limit(99999, 0))[-4:],
                         [[500, 2, 99500, 100], [1, 2, 99999, 100], [0], [0, 3, 0, 0, 1000]])

    def test_twelve_parts_sixty_entries_and_many_postings(self):
        calls = [begins(1, *[(1, 1000, 1, 1)] * 12)] + [day(50)] * 10
        calls += [found(number % 12, 8 * number, number) for number in range(60)]
        told = ask(*calls, wrong(0, 500), *[limit(on_day, 60) for on_day in (0, 6, 100, 499, 500)])[-6:]
        # On the day 500 it's 59 and a unit grown since the day 472, and 995 was posted.
        self.assertEqual([on_day for on_day in range(501) if limit_is_kept(calls, on_day)], [0])
        self.assertEqual(told[0], [500, 2, 1, 55])
        self.assertEqual([answer[0] for answer in told[1:]], [1000, 999, 987, 940, 940])


def limit_is_kept(calls, on_day):
    posted = 1000 - (on_day // 50 * 50 + 99) // 100
    return last(*calls, limit(on_day, 60))[0] >= posted


class Falls(unittest.TestCase):
    def test_today_already(self):
        self.assertEqual(ask(falls(2), falls(1000), begins(1, LOSES), falls(11), found(0, 0, 1), falls(10), falls(9)),
                         [[0], [0], [1], [0], [0], [0], [-6]])

    def test_just_that_much_is_not_below(self):
        self.assertEqual(ask(falls(1), begins(1, LOSES), falls(10)), [[-6], [1], [-6]])

    def test_a_day_to_come(self):
        # A unit a day: 10 on the day 0.
        calls = [begins(1, (1, 10, 1, 100))]
        self.assertEqual(ask(*calls, falls(10), falls(9), falls(1), day(3), falls(7), falls(8), falls(1))[1:],
                         [[1], [2], [10], [3, 0, 0], [1], [0], [7]])

    def test_from_today_on_alone(self):
        # It was below that much on the days 2 to 4, and was mended then.
        calls = [begins(1, (1, 10, 1, 10)), day(5), found(0, 2, 9), mended(0, 5)]
        self.assertEqual(ask(*calls, falls(9), falls(10))[-2:], [[11], [1]])

    def test_by_all_entries(self):
        calls = [begins(1, (1, 100, 1, 10)), found(0, 0, 20), right(0, 10), found(0, 0, 30), strike(2)]
        # By none it's below 90 on the day 101, from a crack of 10 on the first day of growth.
        self.assertEqual([last(*calls[:many], falls(90)) for many in range(1, 6)], [[101], [0], [1], [0], [1]])

    def test_the_part_that_is_below_first(self):
        calls = [begins(1, (1, 100, 1, 1), (1, 190, 1, 10), sound_span(1, 95))]
        self.assertEqual(ask(*calls, falls(95), falls(94), falls(89), falls(50))[1:], [[501], [601], [1011], [1401]])

    def test_growth_rounded_up(self):
        # 7 units in a hundred days: 1 on the day 1, 2 on the day 15, 8 on the day 101.
        calls = [begins(1, (1, 100, 1, 7))]
        self.assertEqual(ask(*calls, falls(100), falls(99), falls(93))[1:], [[1], [15], [101]])

    def test_what_a_unit_costs(self):
        calls = [begins(1, (1, 1000, 100, 100))]
        self.assertEqual(ask(*calls, falls(1000), falls(900), falls(899), falls(1))[1:], [[1], [2], [2], [10]])

    def test_without_loss_or_growth_never(self):
        for span in ((1, 10, 0, 100), (1, 10, 100, 0)):
            self.assertEqual(ask(begins(1, span), falls(10), falls(1), falls(11))[1:], [[-6], [-6], [0]])

    def test_what_bears_nothing(self):
        self.assertEqual(ask(begins(1, LOSES), *closing(), falls(1))[-1:], [[0]])

    def test_the_latest_that_there_is(self):
        # What can be told of a part lets none fall later: a unit in a hundred days, a thousand of them.
        calls = [begins(1, (1, 1000, 1, 1))]
        self.assertEqual(ask(*calls, falls(1), falls(2), falls(1000))[1:], [[99901], [99801], [1]])
        self.assertEqual(ask(*calls, *[day(10000)] * 10, falls(1), mended(0, 100000), falls(1))[-3:], [[0], [0], [99901]])

    def test_beyond_the_last_day_of_the_file(self):
        calls = [begins(1, (1, 1000, 1, 1))] + [day(10000)] * 10 + [found(0, 100000, 0)]
        self.assertEqual(last(*calls, falls(900)), [10001])

    def test_the_last_day_in_sight_and_the_first_one_beyond(self):
        # No part that begins takes falls so late, so this one bears more than may be told.
        for today, answer in ((31, 131070), (30, 131071), (29, -6), (28, -6)):
            session = Session([1])
            session.begin_bridge(1, [1, 1312, 1, 1])
            session.bridge.records.pass_days(today)
            self.assertEqual(ANSWERS_BY_CALL[18](session), [answer])

    def test_edges(self):
        self.assertEqual(ask(falls(0), falls(1), falls(1000), falls(1001), falls(MOST)), [[-1], [-6], [0], [-1], [-1]])

    def test_twelve_parts_and_sixty_entries(self):
        calls = [begins(1, *[(1, 1000, 1, 1)] * 12), day(10000)]
        calls += [found(number % 12, 100 * number, number) for number in range(60)]
        # Part 0's source is of the day 4800 and says 48: it's 52 more on the day 10000; so it is with all of them.
        self.assertEqual(ask(*calls, falls(900), falls(901), falls(1), falls(1000))[-4:], [[1], [0], [89901], [0]])

    def test_on_each_day_before_it_is_not_below(self):
        spans = [(1, 50, 3, 7), (1, 60, 1, 90), (1, 45, 2, 13), (1, 40, 0, 100)]
        calls = [begins(1, *spans), day(30), found(0, 20, 1), found(1, 11, 2), mended(2, 3), found(2, 29, 1)]
        for much in range(1, 42):
            told = last(*calls, falls(much))[0]
            self.assertLess(last(*calls, limit(30 + told, 4))[0], much)
            self.assertTrue(told == 0 or last(*calls, limit(30 + told - 1, 4))[0] >= much)


class Due(unittest.TestCase):
    def test_at_the_beginning(self):
        self.assertEqual(ask(due(0), due(1), due(MOST)), [[0, 0], [0, 0], [0, 0]])

    def test_without_an_entry_the_day_zero_counts(self):
        calls = [begins(1, *[LOSES] * 3), day(7)]
        self.assertEqual(ask(*calls, due(0), due(6), due(7), due(8), due(MOST))[2:],
                         [[3, 3, 0, 1, 2], [3, 3, 0, 1, 2], [0, 0], [0, 0], [0, 0]])

    def test_more_than_so_many_days(self):
        calls = [begins(1, *[LOSES] * 3), day(10), found(1, 4, 0), found(2, 10, 0)]
        self.assertEqual(ask(*calls, due(0), due(5), due(6), due(9), due(10))[4:],
                         [[2, 2, 0, 1], [2, 2, 0, 1], [1, 1, 0], [1, 1, 0], [0, 0]])

    def test_the_last_day_not_the_entry_made_last(self):
        calls = [begins(1, LOSES), day(10), found(0, 8, 0), found(0, 3, 0)]
        self.assertEqual(ask(*calls, due(1), due(2))[-2:], [[1, 1, 0], [0, 0]])

    def test_one_that_is_struck(self):
        calls = [begins(1, LOSES), day(10), found(0, 3, 0), found(0, 8, 0), strike(1)]
        self.assertEqual(ask(*calls, due(6), due(7), strike(0), due(7), due(9), due(10))[-6:],
                         [[1, 1, 0], [0, 0], [3], [1, 1, 0], [1, 1, 0], [0, 0]])

    def test_one_mended_only(self):
        calls = [begins(1, LOSES, LOSES), day(10), mended(0, 8), found(1, 4, 0), mended(1, 9)]
        self.assertEqual(ask(*calls, due(9), due(5), due(6), due(10))[-4:], [[1, 1, 0], [2, 2, 0, 1], [1, 1, 0], [0, 0]])

    def test_one_put_right_is_found_on_its_own_day(self):
        calls = [begins(1, LOSES), day(10), found(0, 4, 0), day(5), right(0, 9)]
        self.assertEqual(ask(*calls, due(10), due(11))[-2:], [[1, 1, 0], [0, 0]])

    def test_rising(self):
        calls = [begins(1, *[LOSES] * 12), day(10), found(7, 10, 1), found(3, 9, 1), found(0, 10, 0)]
        self.assertEqual(ask(*calls, due(0), due(1))[-2:],
                         [[10, 10, 1, 2, 3, 4, 5, 6, 8, 9, 10, 11], [9, 9, 1, 2, 4, 5, 6, 8, 9, 10, 11]])

    def test_the_last_day_of_all(self):
        self.assertEqual(ask(*[day(10000)] * 10, due(99999), due(100000))[-2:], [[1, 1, 0], [0, 0]])


class OnlyTell(unittest.TestCase):
    def test_all_is_as_it_was(self):
        calls = [begins(2, (2, 9, 1, 3), (1, 8, 1, 100)), day(1), comes(0, 5), comes(1, 7), ticks(1), found(0, 0, 2)]
        asked = [wrong(0, 1), wrong(1, 0), falls(5), falls(0), falls(1), due(0), due(9)]
        behind = [state(), wrong(0, 1), post(), ticks(4), post(), day(1), limit(2, 1)]
        self.assertEqual(ask(*calls, *asked, *behind)[13:], ask(*calls, *behind)[6:])


if __name__ == "__main__":
    unittest.main()
