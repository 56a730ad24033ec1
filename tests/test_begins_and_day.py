"""Promise 1, and what the bridge is at a line's beginning."""

import unittest

from tests.helper import (MOST, ask, begins, begins_raw, comes, day, found, gives, last, mended, post, right, shut,
                          sound_span, strike, ticks, where)

PLAIN = (3, 100, 2, 5)


class AtTheBeginning(unittest.TestCase):
    def test_one_span_of_one_cell_that_bears_one(self):
        self.assertEqual(ask(comes(0, 2), comes(0, 1), ticks(1), where(0), ticks(1), where(0)),
                         [[-6], [0], [1, 0], [1, 1, 0], [2, 1, 0], [2, 1, 2]])

    def test_one_part_alone(self):
        self.assertEqual(ask(found(1, 0, 0), found(0, 0, 0)), [[-2], [0]])

    def test_the_part_has_no_loss(self):
        self.assertEqual(ask(found(0, 0, 1000), post()), [[0], [1, 0]])

    def test_the_part_has_no_loss_by_days_either(self):
        self.assertEqual(ask(day(10000), post()), [[10000, 0, 0], [1, 0]])

    def test_a_turn_is_one(self):
        self.assertEqual(ask(comes(0, 1), comes(0, 1), comes(1, 1), ticks(2), where(1), where(2)),
                         [[0], [1], [2], [2, 1, 0], [0, 1, 0], [1, 1, 0]])

    def test_nothing_came_and_nothing_is_entered(self):
        self.assertEqual(ask(where(0), gives(0), strike(0), right(0, 0), shut(0)), [[-2], [-2], [-2], [-2], [0]])

    def test_it_is_day_zero(self):
        self.assertEqual(ask(found(0, 1, 0), mended(0, 1), found(0, 0, 0)), [[-1], [-1], [0]])


class Begins(unittest.TestCase):
    def test_answers_how_many_cells(self):
        self.assertEqual(last(begins(1, PLAIN)), [3])
        self.assertEqual(last(begins(7, (1, 1, 0, 0), (5, 1000, 100, 100), (2, 9, 9, 9))), [8])

    def test_turn_edges(self):
        for turn, answer in ((0, -1), (1, 3), (20, 3), (21, -1), (MOST, -1)):
            with self.subTest(turn=turn):
                self.assertEqual(last(begins(turn, PLAIN)), [answer])

    def test_span_count_edges(self):
        for many, answer in ((0, -1), (1, 3), (12, 36), (13, -1), (15, -1)):
            with self.subTest(many=many):
                self.assertEqual(last(begins(1, *[PLAIN] * many)), [answer])

    def test_each_span_has_four_numbers(self):
        for many in range(61):
            numbers = [1] * many
            answer = many // 4 if many % 4 == 0 and 4 <= many <= 48 else -1
            with self.subTest(many=many):
                self.assertEqual(last(begins_raw(1, numbers)), [answer])

    def test_ranges_of_each_number_of_a_span(self):
        ranges = ((1, 5), (1, 1000), (0, 100), (0, 100))
        for place, (least, most) in enumerate(ranges):
            for number in {least - 1, least, most, most + 1, MOST} - {-1}:
                for at in (0, 1, 2):
                    spans = [list(PLAIN), list(PLAIN), list(PLAIN)]
                    spans[at][place] = number
                    fits = least <= number <= most
                    answer = sum(span[0] for span in spans) if fits else -1
                    with self.subTest(place=place, number=number, at=at):
                        self.assertEqual(last(begins(1, *spans)), [answer])

    def test_what_is_told_of_a_part_is_used(self):
        # It bears 100, a unit costs 3, it grows by 50 in a hundred days.
        self.assertEqual(ask(begins(1, (1, 100, 3, 50)), post(), day(10), post(), found(0, 10, 7), post()),
                         [[1], [100, 0], [10, 0, 0], [85, 0], [0], [79, 0]])

    def test_each_part_has_its_own_numbers(self):
        spans = ((1, 50, 1, 0), (2, 60, 10, 0), (3, 70, 30, 0))
        for part, answer in ((0, 49), (1, 50), (2, 40)):
            self.assertEqual(last(begins(1, *spans), found(part, 0, 1), post()), [answer, 0])

    def test_all_is_new_then(self):
        calls = [begins(2, (1, 10, 1, 0), (2, 10, 1, 0)), comes(0, 5), found(1, 0, 9), day(3), post(), shut(1),
                 comes(0, 1), ticks(5), begins(1, (2, 8, 1, 0))]
        self.assertEqual(ask(*calls, where(0), strike(0), found(0, 1, 0), found(1, 0, 0), comes(0, 9), comes(1, 8),
                             ticks(1), where(0), ticks(2), post())[len(calls):],
                         [[-2], [-2], [-1], [-2], [-6], [0], [1, 0], [1, 1, 1], [3, 1, 0], [8, 0]])

    def test_a_closed_bridge_is_new_then(self):
        self.assertEqual(ask(begins(1, (1, 5, 1, 0)), found(0, 0, 5), post(), comes(0, 1), begins(1, (1, 5, 1, 0)),
                             comes(0, 1), ticks(1), where(0)),
                         [[1], [0], [0, 0], [-7], [1], [0], [1, 0], [1, 1, 0]])

    def test_postings_are_counted_anew(self):
        calls = [post()] * 60 + [begins(1, PLAIN), post()]
        self.assertEqual(ask(*calls)[-3:], [[-5], [3], [100, 0]])

    def test_the_open_side_and_who_entered_are_new(self):
        # Before it the right side was opened, and one had entered from it.
        calls = [begins(1, (1, 5, 0, 0)), comes(1, 1), ticks(1), begins(1, (1, 5, 0, 0)), comes(1, 1), comes(0, 1)]
        self.assertEqual(ask(*calls, ticks(1), where(0), where(1))[-3:], [[1, 0], [0, 1, 0], [1, 1, 0]])

    def test_a_refused_one_leaves_all_as_it_was(self):
        before = [begins(2, (2, 10, 1, 0)), comes(0, 5), ticks(1), found(0, 0, 3)]
        for refused in (begins(0, PLAIN), begins(1), begins_raw(1, [1, 2, 3]), begins(1, (6, 1, 0, 0))):
            self.assertEqual(ask(*before, refused, where(0), strike(0), ticks(2))[-4:],
                             [[-1], [1, 1, 0], [1], [3, 1, 0]])


class Day(unittest.TestCase):
    def test_answers_today_and_two_lists(self):
        self.assertEqual(ask(day(1), day(30), day(9)), [[1, 0, 0], [31, 0, 0], [40, 0, 0]])

    def test_edges(self):
        for days, answer in ((0, [-1]), (1, [1, 0, 0]), (10000, [10000, 0, 0]), (10001, [-1]), (MOST, [-1])):
            with self.subTest(days=days):
                self.assertEqual(last(day(days)), answer)

    def test_today_is_100000_at_the_most(self):
        years = [day(10000)] * 9 + [day(9999)]
        self.assertEqual(ask(*years, day(2), day(1), day(1))[-4:], [[99999, 0, 0], [-5], [100000, 0, 0], [-5]])

    def test_a_wrong_number_is_told_first(self):
        years = [day(10000)] * 10
        self.assertEqual(ask(*years, day(0), day(10001), day(10000))[-3:], [[-1], [-1], [-5]])

    def test_sixty_postings(self):
        # The one at the beginning counts.
        self.assertEqual(ask(*[day(1)] * 60)[-2:], [[59, 0, 0], [-5]])
        self.assertEqual(ask(*[post()] * 59, day(1))[-2:], [[1, 0], [-5]])
        self.assertEqual(ask(*[post()] * 58, day(1), day(0), day(1))[-3:], [[1, 0, 0], [-1], [-5]])

    def test_a_refused_one_has_no_night(self):
        before = [begins(1, sound_span(3, 9)), *[post()] * 59, comes(0, 4), comes(0, 4), ticks(1)]
        self.assertEqual(ask(*before, day(0), day(1), where(0), where(1), ticks(1))[-5:],
                         [[-1], [-5], [1, 1, 0], [0, 1, 0], [2, 0]])

    def test_a_refused_one_lets_no_days_go_by(self):
        self.assertEqual(ask(day(5), day(10001), found(0, 6, 0), found(0, 5, 0)), [[5, 0, 0], [-1], [-1], [0]])


if __name__ == "__main__":
    unittest.main()
