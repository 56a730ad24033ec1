"""Promise 3, what posted means, and a night."""

import unittest

from tests.helper import ask, begins, comes, day, found, gives, last, mended, post, shut, sound_span, strike, ticks, where


class Post(unittest.TestCase):
    def test_answers_what_is_posted_in_the_file(self):
        self.assertEqual(ask(begins(1, (1, 30, 1, 0), (1, 20, 1, 0)), post(), found(1, 0, 5), post()),
                         [[2], [20, 0], [0], [15, 0]])

    def test_those_sent_away_in_the_order_in_which_they_came(self):
        calls = [begins(1, (1, 9, 1, 0)), comes(1, 9), comes(0, 9), comes(0, 3), comes(1, 8), comes(0, 7), comes(1, 9),
                 found(0, 0, 2)]
        self.assertEqual(ask(*calls, post(), gives(2), where(4))[-3:], [[7, 4, 0, 1, 3, 5], [1], [0, 1, 0]])

    def test_just_the_limit_is_not_heavier(self):
        self.assertEqual(last(begins(1, (1, 9, 1, 0)), comes(0, 7), comes(0, 8), found(0, 0, 2), post()), [7, 1, 1])

    def test_sent_away_by_the_least_limit_of_all_spans(self):
        self.assertEqual(last(begins(1, sound_span(1, 90), (1, 50, 1, 0)), comes(0, 41), comes(0, 40), found(1, 0, 10),
                              post()),
                         [40, 1, 0])

    def test_those_that_do_not_wait_are_not_sent_away(self):
        calls = [begins(1, (1, 9, 1, 0)), comes(0, 9), ticks(2), comes(0, 9), gives(1), comes(0, 9), found(0, 0, 1)]
        self.assertEqual(ask(*calls, post(), post(), where(0), where(1), where(2))[-5:],
                         [[8, 1, 2], [8, 0], [2, 1, 2], [3, 1, 2], [4, 1, 2]])

    def test_each_span_has_its_own_limit(self):
        # Span 0 bears 10 still, span 1 bears 6 from the posting on: there the second of 4 has to stay.
        calls = [begins(9, sound_span(1, 10), (3, 10, 1, 0)), found(1, 0, 4), post(), comes(0, 4), comes(0, 4)]
        self.assertEqual(ask(*calls, ticks(3), where(0), where(1))[-2:], [[1, 1, 2], [1, 1, 0]])

    def test_an_entry_alone_changes_no_limit(self):
        calls = [begins(9, sound_span(1, 10), (3, 10, 1, 0)), found(1, 0, 4), comes(0, 4), comes(0, 4)]
        self.assertEqual(ask(*calls, ticks(3), where(0), where(1))[-2:], [[1, 1, 2], [1, 1, 1]])

    def test_a_limit_may_rise_again(self):
        self.assertEqual(ask(begins(1, (1, 9, 1, 0)), found(0, 0, 4), post(), comes(0, 6), mended(0, 0), comes(0, 6), post(),
                             comes(0, 9))[2:],
                         [[5, 0], [-6], [1], [-6], [9, 0], [0]])

    def test_somebody_is_on_the_bridge(self):
        self.assertEqual(ask(begins(1, (2, 9, 1, 0)), comes(0, 9), comes(0, 9), found(0, 0, 5), ticks(1), post(), where(1),
                             ticks(1), post(), ticks(1), where(1), post()),
                         [[2], [0], [1], [0], [1, 0], [-4], [0, 1, 0], [2, 0], [-4], [3, 1, 0], [1, 1, 0], [-4]])

    def test_those_that_wait_are_not_on_the_bridge(self):
        self.assertEqual(ask(comes(0, 1), comes(1, 1), post())[-1:], [[1, 0]])

    def test_sixty_postings(self):
        # The one at the beginning counts.
        self.assertEqual(ask(*[post()] * 60)[-2:], [[1, 0], [-5]])
        self.assertEqual(ask(*[day(1), post()] * 30)[-2:], [[30, 0, 0], [-5]])

    def test_sixty_postings_are_told_first(self):
        self.assertEqual(ask(*[post()] * 59, comes(0, 1), ticks(1), post())[-1:], [[-5]])

    def test_a_refused_one_is_not_counted(self):
        self.assertEqual(ask(comes(0, 1), ticks(1), *[post()] * 5, ticks(1), *[post()] * 60)[-2:], [[1, 0], [-5]])

    def test_a_refused_one_sends_nobody_away(self):
        calls = [begins(1, (1, 9, 1, 0))] + [post()] * 59 + [comes(0, 9), found(0, 0, 9)]
        self.assertEqual(ask(*calls, post(), where(0), comes(0, 9), ticks(1), where(0))[-5:],
                         [[-5], [0, 1, 0], [1], [1, 0], [1, 1, 0]])


class Closed(unittest.TestCase):
    def test_by_a_posting_if_some_part_bears_zero(self):
        calls = [begins(1, sound_span(1, 9), (1, 9, 1, 0), sound_span(1, 9)), comes(1, 1), comes(0, 2), found(1, 0, 9)]
        self.assertEqual(ask(*calls, comes(0, 1), post(), comes(0, 1), ticks(2), where(0), where(1), where(2))[-7:],
                         [[2], [0, 1, 1], [-7], [2, 0], [0, 1, 0], [4, 1, 0], [0, 1, 0]])

    def test_one_that_bears_one_is_not_closed(self):
        self.assertEqual(ask(begins(1, (1, 9, 1, 0)), found(0, 0, 8), post(), comes(0, 1), ticks(1), where(0))[2:],
                         [[1, 0], [0], [1, 0], [1, 1, 0]])

    def test_till_it_is_posted_again_with_none_that_does(self):
        calls = [begins(1, (1, 9, 1, 0), (1, 9, 1, 0)), comes(0, 1), found(0, 0, 9), found(1, 0, 10), post(), strike(0),
                 comes(0, 1), post(), comes(0, 1), mended(1, 0), comes(0, 1), post(), comes(0, 9), ticks(1), where(0)]
        self.assertEqual(ask(*calls)[4:],
                         [[0, 0], [2], [-7], [0, 0], [-7], [3], [-7], [9, 0], [1], [1, 0], [1, 1, 0]])

    def test_open_again_by_a_night(self):
        calls = [begins(1, (1, 9, 1, 0)), comes(0, 1), found(0, 0, 9), post(), mended(0, 0), day(1), comes(0, 9), ticks(1),
                 where(0)]
        self.assertEqual(ask(*calls)[3:], [[0, 0], [1], [1, 0, 0], [1], [1, 0], [1, 1, 0]])

    def test_closed_by_a_night(self):
        # It grows by one unit a day.
        calls = [begins(1, (1, 3, 1, 100)), comes(0, 1), comes(0, 2), shut(1), day(2), day(1), comes(0, 1), shut(0), ticks(4),
                 where(0)]
        self.assertEqual(ask(*calls)[4:], [[2, 0, 1, 1], [3, 0, 0], [-7], [0], [4, 0], [0, 1, 0]])

    def test_closed_its_limit_is_one(self):
        # Of those that wait one of weight 1 may stay, and nobody else.
        calls = [begins(1, (1, 9, 1, 0)), comes(0, 1), comes(0, 2), comes(1, 1), comes(1, 2), found(0, 0, 1000)]
        self.assertEqual(ask(*calls, post())[-1:], [[0, 2, 1, 3]])

    def test_closed_one_may_give_up(self):
        calls = [begins(1, (1, 9, 1, 0)), comes(0, 1), comes(1, 1), found(0, 0, 9), post(), ticks(3), gives(0)]
        self.assertEqual(ask(*calls, where(0), where(1))[-3:], [[1], [3, 1, 3], [0, 1, 0]])

    def test_closed_by_an_old_entry_that_is_made_late(self):
        calls = [begins(1, (1, 9, 1, 0)), day(50), found(0, 20, 9), comes(0, 9), post(), comes(0, 1)]
        self.assertEqual(ask(*calls)[2:], [[0], [0], [0, 1, 0], [-7]])


class ANight(unittest.TestCase):
    def test_nobody_enters_and_the_lane_has_ticks_till_it_is_empty(self):
        calls = [begins(9, sound_span(3, 9)), comes(0, 1), comes(0, 2), comes(0, 3), ticks(2), day(1)]
        self.assertEqual(ask(*calls, where(0), where(1), where(2), ticks(1), where(2))[5:],
                         [[1, 2, 0, 1, 0], [2, 1, 4], [2, 1, 5], [0, 1, 0], [6, 0], [1, 1, 0]])

    def test_without_ticks_if_nobody_is_on_the_bridge(self):
        self.assertEqual(ask(ticks(4), comes(0, 1), day(1), where(0), ticks(1)),
                         [[4, 0], [0], [1, 0, 0], [0, 1, 0], [5, 0]])

    def test_those_that_left_in_the_order_in_which_they_did(self):
        calls = [begins(9, sound_span(5, 9)), comes(1, 1), comes(0, 1), comes(1, 1), comes(1, 1), gives(1), ticks(3)]
        self.assertEqual(last(*calls, day(2)), [2, 3, 0, 2, 3, 0])

    def test_both_lists(self):
        # It grows by one unit a day: 9 is too heavy on the day 1.
        calls = [begins(9, (2, 9, 1, 100)), comes(0, 1), comes(0, 2), ticks(2), comes(1, 9), comes(0, 9), comes(1, 8), day(1)]
        self.assertEqual(ask(*calls, where(0), where(1), where(2), where(3), where(4))[-6:],
                         [[1, 2, 0, 1, 2, 2, 3], [2, 1, 3], [2, 1, 4], [4, 1, 4], [4, 1, 4], [0, 1, 0]])

    def test_it_is_posted_for_the_new_day(self):
        self.assertEqual(ask(begins(1, (1, 9, 1, 100)), day(4), comes(0, 6), comes(0, 5), day(1), comes(0, 5), comes(0, 4)),
                         [[1], [4, 0, 0], [-6], [0], [5, 0, 1, 0], [-6], [1]])

    def test_those_on_the_bridge_cross_by_the_limits_of_the_day_before(self):
        # Known to bear 4 alone, but not posted yet: 9 still leaves the bridge, and is not sent away.
        calls = [begins(1, (1, 9, 0, 0), (1, 9, 1, 0)), comes(0, 9), ticks(1), found(1, 0, 5), day(1), where(0)]
        self.assertEqual(ask(*calls)[4:], [[1, 1, 0, 0], [2, 1, 3]])

    def test_limits_hold_one_back_by_night_too(self):
        calls = [begins(9, sound_span(1, 10), sound_span(3, 10)), comes(0, 6), comes(0, 6), ticks(2), day(1)]
        self.assertEqual(ask(*calls, where(0), where(1))[-3:], [[1, 2, 0, 1, 0], [2, 1, 5], [2, 1, 8]])

    def test_the_time_goes_on_through_all_days(self):
        calls = [begins(1, sound_span(2, 9)), comes(0, 9), ticks(1), day(1), ticks(1), day(5), ticks(1)]
        self.assertEqual(ask(*calls)[3:], [[1, 1, 0, 0], [4, 0], [6, 0, 0], [5, 0]])

    def test_the_other_side_is_opened_in_the_night(self):
        # At its last tick nobody waits at the left side any more: the right one is opened.
        calls = [begins(2, sound_span(1, 9)), comes(0, 1), comes(1, 1), ticks(1), day(1), comes(0, 1), ticks(1)]
        self.assertEqual(ask(*calls, where(1), where(2))[-2:], [[1, 1, 0], [0, 1, 0]])

    def test_no_side_is_opened_in_a_night_without_ticks(self):
        calls = [begins(2, sound_span(1, 9)), comes(1, 1), day(1), comes(0, 1), ticks(1)]
        self.assertEqual(ask(*calls, where(0), where(1))[-2:], [[0, 1, 0], [1, 1, 0]])

    def test_open_again_behind_it(self):
        self.assertEqual(ask(comes(0, 1), comes(0, 1), ticks(1), day(1), ticks(1), where(1))[3:],
                         [[1, 1, 0, 0], [3, 0], [1, 1, 0]])

    def test_shut_by_hand_through_a_night(self):
        calls = [comes(0, 1), comes(0, 1), ticks(1), shut(1), day(1), ticks(1), where(1), day(1), ticks(1), where(1), shut(0),
                 ticks(1), where(1)]
        self.assertEqual(ask(*calls)[3:],
                         [[1], [1, 1, 0, 0], [3, 0], [0, 1, 0], [2, 0, 0], [4, 0], [0, 1, 0], [0], [5, 0], [1, 1, 0]])

    def test_shut_by_hand_and_closed(self):
        calls = [begins(1, (1, 9, 1, 0)), comes(0, 1), shut(1), found(0, 0, 9), day(1), comes(0, 1), mended(0, 1), day(1),
                 comes(0, 9), ticks(1), where(0), shut(0), ticks(1), where(0)]
        self.assertEqual(ask(*calls)[4:],
                         [[1, 0, 0], [-7], [1], [2, 0, 0], [1], [1, 0], [0, 1, 0], [0], [2, 0], [1, 1, 0]])

    def test_an_entry_of_a_day_that_goes_by(self):
        # Behind the night the days between are there to be entered, and no later ones.
        self.assertEqual(ask(day(10), found(0, 10, 1), found(0, 11, 1), found(0, 4, 1))[1:], [[0], [-1], [1]])


if __name__ == "__main__":
    unittest.main()
