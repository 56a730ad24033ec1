"""when and queue of promise 5, and loads."""

import unittest

from tests.helper import (MOST, ask, begins, closing, comes, day, found, gives, last, loads, mended, post, queue, shut,
                          sound_span, state, ticks, when, where)


class When(unittest.TestCase):
    def left_by_ticks(self, vehicle, *calls):
        """Behind how many ticks where tells that it has left."""
        for many in range(1, 1001):
            if last(*calls, ticks(many), where(vehicle))[0] == 2:
                return many
        return None

    def check(self, expected, *calls):
        told = [answer[0] for answer in ask(*calls, *map(when, range(len(expected))))[len(calls):]]
        self.assertEqual(told, expected)
        for vehicle, many in enumerate(expected):
            if many > 0:
                self.assertEqual(self.left_by_ticks(vehicle, *calls), many)

    def test_one_that_waits(self):
        self.check([2], comes(0, 1))
        self.check([6], begins(1, sound_span(5, 9)), comes(0, 1))

    def test_one_on_the_bridge(self):
        calls = [begins(1, sound_span(5, 9)), comes(0, 1)]
        for many in range(1, 6):
            self.check([6 - many], *calls, ticks(many))

    def test_from_the_right(self):
        calls = [begins(1, sound_span(2, 9), sound_span(1, 9)), comes(1, 1)]
        self.check([4], *calls)
        self.check([1], *calls, ticks(3))

    def test_from_now_on_not_from_the_time_on(self):
        self.check([6], begins(1, sound_span(5, 9)), ticks(700), comes(0, 1))
        self.check([6], begins(1, sound_span(5, 9)), day(9), ticks(7), day(1), comes(1, 1))

    def test_one_behind_another(self):
        self.check([6, 7, 8], begins(1, sound_span(5, 9)), comes(0, 1), comes(0, 1), comes(0, 1))

    def test_turns(self):
        # Two from the left, two from the right, the third ones at last.
        calls = [begins(2, sound_span(2, 9))] + [comes(0, 2)] * 3 + [comes(1, 2)] * 3
        self.check([3, 4, 9, 6, 7, 11], *calls)
        self.check([-6, -6, 5, 2, 3, 7], *calls, ticks(4))

    def test_held_back_by_the_limit_of_a_span(self):
        self.check([3, 5], begins(9, sound_span(2, 9)), comes(0, 5), comes(0, 5))
        self.check([5, 8], begins(9, sound_span(1, 10), sound_span(3, 10)), comes(0, 6), comes(0, 6))

    def test_held_back_by_what_is_posted(self):
        calls = [begins(9, sound_span(1, 10), (3, 10, 1, 0)), found(1, 0, 4)]
        self.check([5, 6], *calls, comes(0, 4), comes(0, 4))
        self.check([5, 8], *calls, post(), comes(0, 4), comes(0, 4))

    def test_several_spans_and_both_sides(self):
        calls = [begins(2, sound_span(2, 10), sound_span(1, 8), sound_span(3, 12)), comes(1, 8), comes(0, 5), comes(1, 3),
                 comes(0, 4), comes(0, 8), comes(1, 8), ticks(3), comes(0, 1)]
        expected = [answer[0] for answer in ask(*calls, *map(when, range(7)))[len(calls):]]
        self.assertTrue(all(many > 0 for many in expected))
        self.check(expected, *calls)

    def test_one_that_has_left(self):
        self.assertEqual(ask(comes(0, 1), ticks(1), when(0), ticks(1), when(0))[2:], [[1], [2, 1, 0], [-6]])

    def test_one_that_gave_up(self):
        self.assertEqual(ask(comes(0, 1), when(0), gives(0), when(0)), [[0], [2], [0], [-6]])

    def test_one_that_was_sent_away(self):
        calls = [begins(1, (1, 9, 1, 0)), comes(0, 9), comes(0, 8), found(0, 0, 1), when(0), post(), when(0), when(1)]
        self.assertEqual(ask(*calls)[-4:], [[2], [8, 1, 0], [-6], [2]])

    def test_one_that_waits_while_it_is_shut_by_hand(self):
        calls = [begins(9, sound_span(3, 9)), comes(0, 1), comes(0, 1), comes(1, 1), ticks(1), shut(1)]
        self.assertEqual(ask(*calls, *map(when, range(3)))[-3:], [[3], [-6], [-6]])
        self.assertEqual(ask(*calls, shut(0), *map(when, range(3)))[-3:], [[3], [4], [7]])

    def test_one_that_waits_while_it_is_closed(self):
        calls = [begins(1, (1, 9, 1, 0)), comes(0, 1), comes(1, 1), *closing()]
        self.assertEqual(ask(*calls, when(0), when(1), mended(0, 0), when(0), post(), when(0), when(1))[5:],
                         [[-6], [-6], [1], [-6], [9, 0], [2], [3]])

    def test_closed_and_not_shut_by_hand(self):
        calls = [begins(1, (1, 9, 1, 0)), comes(0, 1), *closing(), shut(1), shut(0)]
        self.assertEqual(last(*calls, when(0)), [-6])

    def test_closed_only_by_the_next_posting(self):
        calls = [begins(1, (1, 9, 1, 0)), comes(0, 1), comes(0, 1), ticks(1), found(0, 0, 1000)]
        self.assertEqual(ask(*calls, when(0), when(1), day(1), when(0), when(1))[5:], [[1], [2], [1, 1, 0, 0], [-6], [-6]])

    def test_a_night_is_not_looked_ahead_to(self):
        self.assertEqual(ask(begins(1, sound_span(3, 9)), comes(0, 1), comes(0, 1), ticks(1), day(1), when(0), when(1))[-2:],
                         [[-6], [4]])

    def test_none_of_that_number(self):
        self.assertEqual(ask(when(0), comes(0, 1), when(1), when(MOST), when(0)), [[-2], [0], [-2], [-2], [2]])

    def test_none_of_that_number_behind_begins(self):
        self.assertEqual(last(comes(0, 1), begins(1, sound_span(1, 1)), when(0)), [-2])

    def test_the_most_vehicles_on_the_most_cells(self):
        calls = [begins(20, *[sound_span(5, 1000)] * 12)] + [comes(0, 1)] * 60
        self.assertEqual(ask(*calls, when(0), when(59))[-2:], [[61], [120]])
        self.assertEqual(ask(*calls, ticks(60), when(0), when(59), ticks(59), when(59), ticks(1), when(59))[-7:],
                         [[60, 0], [1], [60], [119, 59] + list(range(59)), [1], [120, 1, 59], [-6]])

    def test_the_most_vehicles_one_a_turn(self):
        calls = [begins(1, *[sound_span(5, 1000)] * 12)] + [comes(number % 2, 1000) for number in range(60)]
        self.assertEqual(ask(*calls, *map(when, (0, 1, 58, 59)))[-4:], [[61], [121], [3541], [3601]])
        self.assertEqual(ask(*calls, *[ticks(1000)] * 3, ticks(600), when(59), ticks(1), when(59))[-4:],
                         [[3600, 10] + list(range(49, 59)), [1], [3601, 1, 59], [-6]])

    def test_the_most_vehicles_one_on_a_span_at_a_time(self):
        calls = [begins(20, *[sound_span(5, 1000)] * 12)] + [comes(0, 1000)] * 60
        told = ask(*calls, when(0), when(1), when(59), ticks(500), when(59))
        # Each enters and moves on when the one ahead of it has left the span, at the same tick.
        self.assertEqual(told[-5:-2], [[61], [66], [356]])
        self.assertEqual(told[-2:], [[500, 60] + list(range(60)), [-6]])

    def test_the_ticks_ahead_do_not_happen(self):
        calls = [begins(2, sound_span(2, 10), (2, 10, 1, 0)), comes(0, 6), comes(0, 6), comes(1, 3), ticks(2)]
        self.assertEqual(ask(*calls, when(0), when(1), when(2), when(7), state(), loads(), where(1), ticks(30))[9:],
                         ask(*calls, state(), loads(), where(1), ticks(30))[5:])


class Loads(unittest.TestCase):
    def test_at_the_beginning(self):
        self.assertEqual(last(loads()), [0, 1, 0])

    def test_those_that_wait_are_on_no_span(self):
        self.assertEqual(last(begins(1, *[sound_span(1, 9)] * 3), comes(0, 9), comes(1, 9), loads()), [0, 3, 0, 0, 0])

    def test_what_each_span_bears(self):
        calls = [begins(9, sound_span(2, 10), sound_span(1, 10), sound_span(2, 10)), comes(0, 3), comes(0, 4), comes(0, 5)]
        told = ask(*calls, *[ticks(1), loads()] * 7)[len(calls) + 1::2]
        self.assertEqual(told, [[1, 3, 3, 0, 0], [2, 3, 7, 0, 0], [3, 3, 9, 3, 0], [3, 3, 5, 4, 3], [3, 3, 0, 5, 7],
                                [2, 3, 0, 0, 9], [1, 3, 0, 0, 5]])

    def test_from_the_right(self):
        calls = [begins(9, sound_span(2, 10), sound_span(1, 10)), comes(1, 3), comes(1, 4)]
        self.assertEqual(ask(*calls, ticks(1), loads(), ticks(1), loads(), ticks(2), loads())[4::2],
                         [[1, 2, 0, 3], [2, 2, 3, 4], [1, 2, 4, 0]])

    def test_behind_a_night(self):
        self.assertEqual(last(begins(1, sound_span(3, 9)), comes(0, 9), ticks(1), day(1), loads()), [0, 1, 0])


class Queue(unittest.TestCase):
    def test_nobody(self):
        self.assertEqual(ask(queue(0), queue(1)), [[0, 0], [0, 0]])

    def test_each_side_in_order(self):
        calls = [comes(side, 1) for side in (1, 0, 0, 1, 0)]
        self.assertEqual(ask(*calls, queue(0), queue(1))[-2:], [[3, 3, 1, 2, 4], [2, 2, 0, 3]])

    def test_those_that_do_not_wait_any_more(self):
        calls = [begins(1, (2, 9, 1, 0))] + [comes(0, weight) for weight in (1, 2, 9, 4, 5)]
        self.assertEqual(ask(*calls, gives(1), queue(0), found(0, 0, 1), post(), queue(0), ticks(1), queue(0))[-5:],
                         [[0], [8, 1, 2], [3, 3, 0, 3, 4], [1, 0], [2, 2, 3, 4]])

    def test_no_side(self):
        self.assertEqual(ask(queue(2), queue(MOST)), [[-1], [-1]])

    def test_sixty(self):
        self.assertEqual(last(*[comes(1, 1)] * 60, queue(1)), [60, 60] + list(range(60)))

    def test_shut_and_closed_they_wait_still(self):
        self.assertEqual(ask(begins(1, (1, 9, 1, 0)), comes(0, 1), comes(0, 2), shut(1), *closing(), ticks(5), queue(0))[-1:],
                         [[1, 1, 0]])

    def test_what_is_told_is_not_what_is_kept(self):
        calls = [comes(0, 1), comes(0, 1)]
        self.assertEqual(ask(*calls, queue(0), queue(0), queue(3), ticks(1), where(1), queue(0))[2:],
                         [[2, 2, 0, 1], [2, 2, 0, 1], [-1], [1, 0], [0, 1, 0], [1, 1, 1]])


if __name__ == "__main__":
    unittest.main()
