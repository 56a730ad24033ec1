"""Promise 4, shut and where of promise 5, and what a tick does."""

import unittest

from tests.helper import MOST, ask, begins, comes, day, found, gives, last, post, shut, sound_span, ticks, where


def track(many, vehicles, *calls):
    """Where these vehicles are behind each of so many ticks, as pairs of what where answers."""
    steps = []
    for number in range(1, many + 1):
        asked = [where(vehicle) for vehicle in vehicles]
        answered = ask(*calls, ticks(number), *asked)[-len(vehicles):]
        steps.append([(answer[0], answer[2]) for answer in answered])
    return steps


class Comes(unittest.TestCase):
    def test_answers_its_number(self):
        self.assertEqual(ask(begins(1, sound_span(2, 50)), comes(0, 1), comes(1, 50), comes(0, 7)),
                         [[2], [0], [1], [2]])

    def test_no_side(self):
        self.assertEqual(ask(comes(2, 1), comes(MOST, 1), comes(1, 1)), [[-1], [-1], [0]])

    def test_weight_edges(self):
        for weight, answer in ((0, -1), (1, 0), (1000, 0), (1001, -1), (MOST, -1)):
            with self.subTest(weight=weight):
                self.assertEqual(last(begins(1, sound_span(1, 1000)), comes(0, weight)), [answer])

    def test_heavier_than_the_least_limit(self):
        spans = [sound_span(1, 30), sound_span(1, 20), sound_span(1, 40)]
        self.assertEqual(ask(begins(1, *spans), comes(0, 21), comes(1, 21), comes(0, 20)), [[3], [-6], [-6], [0]])

    def test_the_limit_is_that_of_the_last_posting(self):
        self.assertEqual(ask(begins(1, (1, 30, 1, 0)), found(0, 0, 10), comes(0, 30), post(), comes(0, 21),
                             comes(0, 20)),
                         [[1], [0], [0], [20, 1, 0], [-6], [1]])

    def test_sixty_have_come(self):
        sixty = [comes(number % 2, 1) for number in range(60)]
        self.assertEqual(ask(*sixty, comes(0, 1), comes(0, 2), comes(2, 1), comes(0, 0))[59:],
                         [[59], [-5], [-5], [-1], [-1]])

    def test_those_that_are_gone_count_among_the_sixty(self):
        self.assertEqual(ask(*[comes(0, 1)] * 59, gives(0), ticks(1000), comes(0, 1), comes(0, 1))[-2:], [[59], [-5]])

    def test_refused_ones_do_not_count_among_the_sixty(self):
        self.assertEqual(ask(*[comes(0, 2), comes(2, 1)] * 10, comes(0, 1))[-2:], [[-1], [0]])

    def test_closed_is_told_first(self):
        closed = [begins(1, (1, 9, 1, 0)), found(0, 0, 9), post()]
        for call in (comes(0, 1), comes(2, 1), comes(0, 0), comes(0, 1001), comes(0, 9)):
            self.assertEqual(last(*closed, call), [-7])

    def test_closed_is_told_ahead_of_sixty(self):
        sixty = [begins(1, (1, 9, 1, 0))] + [comes(0, 1)] * 60
        self.assertEqual(ask(*sixty, comes(0, 1), found(0, 0, 9), post(), comes(0, 1))[61:],
                         [[-5], [0], [0, 0], [-7]])

    def test_it_may_come_while_it_is_shut_by_hand(self):
        self.assertEqual(ask(shut(1), comes(0, 1), where(0)), [[0], [0], [0, 1, 0]])


class Gives(unittest.TestCase):
    def test_answers_how_many_wait_at_both_sides(self):
        self.assertEqual(ask(comes(0, 1), comes(1, 1), comes(0, 1), comes(1, 1), gives(2), gives(1), gives(0), gives(3)),
                         [[0], [1], [2], [3], [3], [2], [1], [0]])

    def test_none_of_that_number(self):
        self.assertEqual(ask(gives(0), comes(0, 1), gives(1), gives(MOST)), [[-2], [0], [-2], [-2]])

    def test_it_does_not_wait(self):
        self.assertEqual(ask(comes(0, 1), ticks(1), gives(0), ticks(1), gives(0)),
                         [[0], [1, 0], [-4], [2, 1, 0], [-4]])
        self.assertEqual(ask(comes(0, 1), gives(0), gives(0)), [[0], [0], [-4]])

    def test_one_sent_away_does_not_wait(self):
        self.assertEqual(ask(begins(1, (1, 9, 1, 0)), comes(0, 9), found(0, 0, 1), post(), gives(0)),
                         [[1], [0], [0], [8, 1, 0], [-4]])

    def test_those_on_the_bridge_do_not_wait(self):
        self.assertEqual(last(comes(0, 1), comes(0, 1), comes(1, 1), ticks(1), gives(1)), [1])

    def test_those_behind_move_up(self):
        self.assertEqual(ask(comes(0, 1), comes(0, 1), comes(0, 1), gives(0), where(1), where(2), ticks(1), where(1))[3:],
                         [[2], [0, 1, 0], [0, 1, 1], [1, 0], [1, 1, 0]])

    def test_a_turn_may_be_over_by_it(self):
        # The only one that waits at the open side gives up: the other side is opened.
        self.assertEqual(ask(comes(0, 1), comes(1, 1), gives(0), ticks(1), where(1)),
                         [[0], [1], [1], [1, 0], [1, 1, 0]])


class Ticks(unittest.TestCase):
    def test_edges(self):
        for many, answer in ((0, [-1]), (1, [1, 0]), (1000, [1000, 0]), (1001, [-1]), (MOST, [-1])):
            with self.subTest(many=many):
                self.assertEqual(last(ticks(many)), answer)

    def test_the_time_goes_on(self):
        self.assertEqual(ask(ticks(3), ticks(1001), ticks(4)), [[3, 0], [-1], [7, 0]])

    def test_those_that_left_in_the_order_in_which_they_did(self):
        self.assertEqual(ask(begins(1, sound_span(2, 9)), comes(1, 9), comes(0, 9), comes(0, 9), ticks(3), ticks(50)),
                         [[2], [0], [1], [2], [3, 1, 1], [53, 2, 0, 2]])


class Where(unittest.TestCase):
    def test_none_of_that_number(self):
        self.assertEqual(ask(where(0), comes(0, 1), where(1), where(MOST)), [[-2], [0], [-2], [-2]])

    def test_waiting_those_at_its_side_before_it(self):
        self.assertEqual(ask(comes(0, 1), comes(1, 1), comes(0, 1), comes(0, 1), comes(1, 1), *map(where, range(5)))[5:],
                         [[0, 1, 0], [0, 1, 0], [0, 1, 1], [0, 1, 2], [0, 1, 1]])

    def test_on_the_bridge_its_cell(self):
        self.assertEqual(last(begins(1, sound_span(5, 9)), comes(1, 9), ticks(2), where(0)), [1, 1, 3])

    def test_gone_the_time_when_that_was(self):
        gone = [begins(1, (2, 9, 1, 0)), ticks(5), comes(0, 9), comes(0, 8), comes(0, 7), ticks(1), gives(1), ticks(4),
                found(0, 0, 1), comes(1, 9), ticks(4), comes(1, 9), post(), ticks(9)]
        self.assertEqual(ask(*gone, where(0), where(1), where(2), where(3), where(4))[-7:],
                         [[8, 1, 4], [23, 0], [2, 1, 8], [3, 1, 6], [2, 1, 10], [2, 1, 13], [4, 1, 14]])


class Shut(unittest.TestCase):
    def test_edges(self):
        self.assertEqual(ask(shut(0), shut(1), shut(2), shut(MOST)), [[0], [0], [-1], [-1]])

    def test_answers_how_many_are_on_the_bridge(self):
        self.assertEqual(ask(begins(9, sound_span(3, 9)), comes(0, 1), comes(0, 1), comes(0, 1), ticks(2), shut(1),
                             ticks(2), shut(0))[5:],
                         [[2], [4, 1, 0], [1]])

    def test_nobody_enters_and_the_others_go_on(self):
        self.assertEqual(ask(begins(9, sound_span(2, 9)), comes(0, 1), comes(0, 1), ticks(1), shut(1), ticks(9),
                             where(0), where(1), shut(0), ticks(1), where(1))[4:],
                         [[1], [10, 1, 0], [2, 1, 3], [0, 1, 0], [0], [11, 0], [1, 1, 0]])

    def test_a_refused_one_changes_nothing(self):
        self.assertEqual(ask(shut(1), shut(2), comes(0, 1), ticks(1), where(0), shut(0), shut(3), ticks(1), where(0)),
                         [[0], [-1], [0], [1, 0], [0, 1, 0], [0], [-1], [2, 0], [1, 1, 0]])

    def test_the_other_side_is_opened_while_it_is_shut(self):
        # Shut, the right side was opened, for nobody waited at the left one.
        self.assertEqual(ask(shut(1), comes(1, 1), ticks(1), comes(0, 1), shut(0), ticks(1), where(0), where(1))[-2:],
                         [[1, 1, 0], [0, 1, 0]])


class ATick(unittest.TestCase):
    def test_from_the_left_cell_by_cell(self):
        spans = [sound_span(2, 9), sound_span(1, 9)]
        self.assertEqual(track(5, [0], begins(1, *spans), comes(0, 9)), [[(1, 0)], [(1, 1)], [(1, 2)], [(2, 4)], [(2, 4)]])

    def test_from_the_right_cell_by_cell(self):
        spans = [sound_span(2, 9), sound_span(1, 9)]
        self.assertEqual(track(5, [0], begins(1, *spans), comes(1, 9)), [[(1, 2)], [(1, 1)], [(1, 0)], [(2, 4)], [(2, 4)]])

    def test_one_enters_at_a_tick(self):
        self.assertEqual(track(3, [0, 1, 2], begins(9, sound_span(5, 9)), comes(0, 1), comes(0, 1), comes(0, 1)),
                         [[(1, 0), (0, 0), (0, 1)],
                          [(1, 1), (1, 0), (0, 0)],
                          [(1, 2), (1, 1), (1, 0)]])

    def test_a_cell_that_is_left_at_this_tick_is_free(self):
        self.assertEqual(track(3, [0, 1], begins(9, sound_span(1, 9)), comes(0, 9), comes(0, 9)),
                         [[(1, 0), (0, 0)], [(2, 2), (1, 0)], [(2, 2), (2, 3)]])

    def test_the_limit_holds_one_back_ahead_of_the_bridge(self):
        calls = [begins(9, sound_span(2, 10), sound_span(2, 10)), comes(0, 6), comes(0, 6)]
        self.assertEqual(track(7, [0, 1], *calls),
                         [[(1, 0), (0, 0)],
                          [(1, 1), (0, 0)],
                          [(1, 2), (1, 0)],
                          [(1, 3), (1, 1)],
                          [(2, 5), (1, 2)],
                          [(2, 5), (1, 3)],
                          [(2, 5), (2, 7)]])

    def test_just_the_limit_is_not_above_it(self):
        calls = [begins(9, sound_span(2, 10), sound_span(2, 10)), comes(0, 6), comes(0, 4), comes(0, 6)]
        self.assertEqual(track(4, [0, 1, 2], *calls),
                         [[(1, 0), (0, 0), (0, 1)],
                          [(1, 1), (1, 0), (0, 0)],
                          [(1, 2), (1, 1), (1, 0)],
                          [(1, 3), (1, 2), (1, 1)]])

    def test_the_limit_holds_one_back_between_spans(self):
        for side, cells in ((0, (0, 1, 2, 3)), (1, (3, 2, 1, 0))):
            spans = [sound_span(1, 10), sound_span(3, 10)]
            if side == 1:
                spans.reverse()
            calls = [begins(9, *spans), comes(side, 6), comes(side, 6)]
            on = [(1, cell) for cell in cells]
            with self.subTest(side=side):
                self.assertEqual(track(8, [0, 1], *calls),
                                 [[on[0], (0, 0)], [on[1], on[0]], [on[2], on[0]], [on[3], on[0]],
                                  [(2, 5), on[1]], [(2, 5), on[2]], [(2, 5), on[3]], [(2, 5), (2, 8)]])

    def test_one_that_stays_holds_those_behind_it(self):
        for side, cells in ((0, (0, 1, 2, 3)), (1, (3, 2, 1, 0))):
            spans = [sound_span(2, 12), sound_span(2, 6)]
            if side == 1:
                spans.reverse()
            calls = [begins(9, *spans), comes(side, 6), comes(side, 6), comes(side, 6)]
            on = [(1, cell) for cell in cells]
            with self.subTest(side=side):
                self.assertEqual(track(9, [0, 1, 2], *calls),
                                 [[on[0], (0, 0), (0, 1)],
                                  [on[1], on[0], (0, 0)],
                                  [on[2], on[1], on[0]],
                                  [on[3], on[1], on[0]],
                                  [(2, 5), on[2], on[1]],
                                  [(2, 5), on[3], on[1]],
                                  [(2, 5), (2, 7), on[2]],
                                  [(2, 5), (2, 7), on[3]],
                                  [(2, 5), (2, 7), (2, 9)]])

    def test_the_limit_counts_all_in_a_span(self):
        # The middle span bears 5: two of 2 go in, a third of 2 has to stay.
        spans = [sound_span(3, 90), sound_span(3, 5), sound_span(1, 90)]
        calls = [begins(9, *spans), comes(0, 2), comes(0, 2), comes(0, 2), comes(0, 1)]
        self.assertEqual(track(7, [0, 1, 2, 3], *calls)[3:],
                         [[(1, 3), (1, 2), (1, 1), (1, 0)],
                          [(1, 4), (1, 3), (1, 2), (1, 1)],
                          [(1, 5), (1, 4), (1, 2), (1, 1)],
                          [(1, 6), (1, 5), (1, 3), (1, 2)]])

    def test_one_behind_does_not_pass(self):
        # The first that waits is too heavy yet: the lighter one behind it waits too.
        calls = [begins(9, sound_span(3, 10)), comes(0, 6), comes(0, 6), comes(0, 1)]
        self.assertEqual(track(5, [0, 1, 2], *calls)[1:],
                         [[(1, 1), (0, 0), (0, 1)],
                          [(1, 2), (0, 0), (0, 1)],
                          [(2, 4), (1, 0), (0, 0)],
                          [(2, 4), (1, 1), (1, 0)]])

    def test_within_a_span_only_the_cell_has_to_be_free(self):
        calls = [begins(9, sound_span(4, 10)), comes(0, 5), comes(0, 5)]
        self.assertEqual(track(6, [0, 1], *calls)[1:],
                         [[(1, 1), (1, 0)], [(1, 2), (1, 1)], [(1, 3), (1, 2)], [(2, 5), (1, 3)], [(2, 5), (2, 6)]])


class TheOpenSide(unittest.TestCase):
    def test_at_first_the_left_one(self):
        self.assertEqual(ask(comes(1, 1), comes(0, 1), ticks(1), where(0), where(1))[3:], [[0, 1, 0], [1, 1, 0]])

    def test_the_right_one_is_opened_and_entered_at_one_tick(self):
        self.assertEqual(ask(begins(1, sound_span(3, 9)), comes(1, 9), ticks(1), where(0))[2:], [[1, 0], [1, 1, 2]])

    def test_not_while_somebody_is_on_the_bridge(self):
        calls = [begins(1, sound_span(2, 9)), comes(0, 2), comes(0, 2), comes(1, 2)]
        self.assertEqual(track(8, [0, 1, 2], *calls),
                         [[(1, 0), (0, 0), (0, 0)],
                          [(1, 1), (0, 0), (0, 0)],
                          [(2, 3), (0, 0), (1, 1)],
                          [(2, 3), (0, 0), (1, 0)],
                          [(2, 3), (1, 0), (2, 5)],
                          [(2, 3), (1, 1), (2, 5)],
                          [(2, 3), (2, 7), (2, 5)],
                          [(2, 3), (2, 7), (2, 5)]])

    def test_a_turn_of_two(self):
        calls = [begins(2, sound_span(2, 9)), comes(0, 2), comes(0, 2), comes(0, 2), comes(1, 2), comes(1, 2), comes(1, 2)]
        self.assertEqual(last(*calls, ticks(11))[2:], [0, 1, 3, 4, 2, 5])
        self.assertEqual(ask(*calls, ticks(11), *map(where, range(6)))[-6:],
                         [[2, 1, 3], [2, 1, 4], [2, 1, 9], [2, 1, 6], [2, 1, 7], [2, 1, 11]])

    def test_the_longest_turn(self):
        calls = [begins(20, sound_span(1, 9))] + [comes(0, 1)] * 22 + [comes(1, 1)]
        self.assertEqual(last(*calls, ticks(100))[2:], list(range(20)) + [22, 20, 21])

    def test_over_when_nobody_waits_there(self):
        # A turn is nine, but there is only one at the left side.
        calls = [begins(9, sound_span(1, 9)), comes(0, 1), comes(1, 1), ticks(1), comes(0, 1), gives(2)]
        self.assertEqual(ask(*calls, ticks(1), where(1))[-2:], [[2, 1, 0], [1, 1, 0]])

    def test_not_over_when_others_have_come_there_again(self):
        calls = [begins(9, sound_span(1, 9)), comes(0, 1), comes(1, 1), ticks(1), comes(0, 1)]
        self.assertEqual(ask(*calls, ticks(1), where(1), where(2))[-3:], [[2, 1, 0], [0, 1, 0], [1, 1, 0]])

    def test_more_than_a_turn_if_nobody_waits_at_the_other_side(self):
        calls = [begins(2, sound_span(1, 9))] + [comes(0, 1)] * 6
        self.assertEqual(last(*calls, ticks(4), comes(1, 1), ticks(9))[2:], [3, 6, 4, 5])

    def test_it_stays_as_it_is_if_nobody_waits(self):
        # The right side stays open when all are gone; a turn is one, and one has entered there.
        calls = [begins(1, sound_span(1, 9)), comes(1, 1), ticks(5), comes(1, 1)]
        self.assertEqual(ask(*calls, comes(0, 1), ticks(1), where(1), where(2))[-2:], [[0, 1, 0], [1, 1, 0]])
        self.assertEqual(ask(*calls, ticks(1), where(1))[-1:], [[1, 1, 0]])

    def test_the_count_begins_anew_at_each_opening(self):
        calls = [begins(2, sound_span(1, 9)), comes(0, 1), comes(0, 1), comes(1, 1), comes(1, 1), comes(0, 1), comes(0, 1),
                 comes(1, 1)]
        self.assertEqual(last(*calls, ticks(20))[2:], [0, 1, 2, 3, 4, 5, 6])

    def test_a_closed_bridge_is_shut(self):
        closed = [begins(1, (2, 9, 1, 0)), comes(0, 1), comes(0, 9), found(0, 0, 9), post()]
        self.assertEqual(ask(*closed, ticks(7), where(0), where(1))[-4:], [[0, 1, 1], [7, 0], [0, 1, 0], [4, 1, 0]])

    def test_opening_by_hand_does_not_open_a_closed_one(self):
        closed = [begins(1, (2, 9, 1, 0)), comes(0, 1), found(0, 0, 9), shut(1), post(), shut(0)]
        self.assertEqual(ask(*closed, ticks(3), where(0), day(1), ticks(3), where(0))[-5:],
                         [[3, 0], [0, 1, 0], [1, 0, 0], [6, 0], [0, 1, 0]])


if __name__ == "__main__":
    unittest.main()
