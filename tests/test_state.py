"""state, as the calls tell it."""

import unittest

from tests.helper import (ask, begins, closing, comes, day, found, gives, last, mended, post, right, shut, sound_span, state,
                          strike, ticks)


class State(unittest.TestCase):
    def test_at_the_beginning(self):
        self.assertEqual(last(state()), [0, 7, 0, 0, 0, 0, 0, 0, 0, 2, 1, 1, 0])

    def test_spans_with_their_cells_and_limits(self):
        self.assertEqual(last(begins(1, sound_span(2, 30), sound_span(5, 1000), sound_span(1, 7)), state()),
                         [0, 7, 0, 0, 0, 0, 0, 0, 0, 6, 2, 30, 5, 1000, 1, 7, 0])

    def test_limits_as_they_were_posted_last(self):
        calls = [begins(1, (1, 30, 1, 0), (1, 20, 1, 0)), found(0, 0, 12)]
        self.assertEqual(ask(*calls, state(), post(), state())[2::2],
                         [[0, 7, 0, 0, 0, 0, 0, 0, 1, 4, 1, 30, 1, 20, 0], [0, 7, 0, 0, 0, 0, 0, 0, 1, 4, 1, 18, 1, 20, 0]])

    def test_today_and_the_time(self):
        self.assertEqual(ask(ticks(3), day(9), ticks(4), day(2), state())[-1:], [[11, 7, 7, 0, 0, 0, 0, 0, 0, 2, 1, 1, 0]])

    def test_several_from_the_left_those_farthest_on_first(self):
        calls = [begins(9, sound_span(3, 10), sound_span(3, 10)), comes(1, 1), comes(0, 3), comes(0, 8), comes(0, 2), ticks(6)]
        # Number 2 could enter only when number 1 had left the first span.
        self.assertEqual(last(*calls, state()), [0, 7, 6, 0, 3, 0, 0, 4, 0, 4, 3, 10, 3, 10, 6, 1, 5, 2, 2, 3, 1])

    def test_several_from_the_right_those_farthest_on_first(self):
        calls = [begins(9, sound_span(3, 10), sound_span(2, 10)), comes(1, 3), comes(1, 4), comes(1, 3), ticks(4)]
        self.assertEqual(last(*calls, state()), [0, 7, 4, 1, 3, 0, 0, 3, 0, 4, 3, 10, 2, 10, 6, 0, 1, 1, 2, 2, 3])

    def test_which_side_is_open_and_how_many_have_entered(self):
        calls = [begins(2, sound_span(1, 9)), comes(0, 1), comes(0, 1), comes(0, 1), comes(1, 1)]
        told = ask(*calls, *[ticks(1), state()] * 5)[len(calls) + 1::2]
        self.assertEqual([answer[3:5] for answer in told], [[0, 1], [0, 2], [1, 1], [0, 1], [0, 1]])

    def test_more_may_have_entered_than_a_turn_is(self):
        self.assertEqual(last(begins(1, sound_span(1, 9)), *[comes(0, 1)] * 5, ticks(9), state())[3:5], [0, 5])

    def test_shut_by_hand(self):
        self.assertEqual([answer[5:7] for answer in ask(shut(1), state(), shut(2), state(), shut(0), state())[1::2]],
                         [[1, 0], [1, 0], [0, 0]])

    def test_closed(self):
        calls = [begins(1, (1, 9, 1, 0), sound_span(1, 8)), *closing()]
        self.assertEqual(last(*calls, state()), [0, 7, 0, 0, 0, 0, 1, 0, 1, 4, 1, 1, 1, 8, 0])
        self.assertEqual(ask(*calls, shut(1), state(), mended(0, 0), state(), post(), state())[4::2],
                         [[0, 7, 0, 0, 0, 1, 1, 0, 1, 4, 1, 1, 1, 8, 0], [0, 7, 0, 0, 0, 1, 1, 0, 2, 4, 1, 1, 1, 8, 0],
                          [0, 7, 0, 0, 0, 1, 0, 0, 2, 4, 1, 9, 1, 8, 0]])

    def test_a_limit_of_one_is_not_closed(self):
        self.assertEqual(last(begins(1, (1, 9, 1, 0)), found(0, 0, 8), post(), state()), [0, 7, 0, 0, 0, 0, 0, 0, 1, 2, 1, 1, 0])

    def test_how_many_came_those_that_are_gone_too(self):
        calls = [begins(1, (1, 9, 1, 0)), comes(0, 1), comes(0, 9), comes(1, 1), ticks(2), gives(1), comes(0, 10), comes(2, 1)]
        self.assertEqual(last(*calls, state())[7], 3)

    def test_how_many_entries_of_all_sorts(self):
        calls = [found(0, 0, 1), mended(0, 0), right(0, 2), strike(1), strike(1), right(9, 9), found(1, 0, 0)]
        self.assertEqual(last(*calls, state())[8], 4)

    def test_behind_begins_in_the_middle_all_is_new(self):
        calls = [comes(0, 1), comes(1, 1), ticks(3), shut(1), found(0, 0, 1), day(4), begins(3, (4, 9, 1, 0))]
        self.assertEqual(last(*calls, state()), [0, 7, 0, 0, 0, 0, 0, 0, 0, 2, 4, 9, 0])

    def test_behind_a_refused_begins_nothing_is(self):
        calls = [comes(0, 1), comes(1, 1), ticks(3), shut(1), found(0, 0, 1), day(4)]
        self.assertEqual(last(*calls, begins(0, (4, 9, 1, 0)), state()), last(*calls, state()))
        self.assertEqual(last(*calls, state()), [4, 7, 3, 1, 1, 1, 0, 2, 1, 2, 1, 1, 0])

    def test_the_most(self):
        calls = [begins(20, *[sound_span(5, 1000)] * 12)] + [comes(1, 1)] * 60 + [ticks(60)]
        crossing = [number for vehicle in range(60) for number in (vehicle, vehicle)]
        self.assertEqual(last(*calls, state()), [0, 7, 60, 1, 60, 0, 0, 60, 0, 24] + [5, 1000] * 12 + [120] + crossing)

    def test_it_only_tells(self):
        calls = [begins(2, (2, 9, 1, 0)), comes(0, 5), comes(1, 7), ticks(1), shut(1)]
        self.assertEqual(ask(*calls, state(), state(), ticks(9), state())[6:], ask(*calls, state(), ticks(9), state())[5:])


if __name__ == "__main__":
    unittest.main()
