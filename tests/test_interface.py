"""How calls are handed in and answers given back, and what holds for every line."""

import random
import unittest

from bridgeinuse.office import answers
from tests.helper import (MOST, ask, begins, begins_raw, bridge_after, comes, day, found, gives, mended, post, right, shut,
                          sound_span, strike, take_apart, ticks, where)


def flat(calls):
    return [number for call in calls for number in call]


def some_span(dice):
    return (dice.randint(1, 5), dice.choice((1, 5, 20, 20, 30, 1000)), dice.choice((0, 1, 2, 100)), dice.choice((0, 3, 100)))


def some_call(dice):
    """A call that is mostly taken, and refused often enough."""
    several = dice.randint(0, 7)
    return dice.choice((
        day(dice.choice((0, 1, 2, 30, 10001))),
        found(dice.randint(0, 3), dice.randint(0, 9), dice.choice((0, 1, 3, 9, 1001))),
        mended(dice.randint(0, 3), dice.randint(0, 9)),
        strike(several),
        right(several, dice.choice((0, 2, 5, 1001))),
        post(),
        comes(dice.randint(0, 2), dice.randint(0, 12)),
        comes(dice.randint(0, 1), dice.randint(1, 20)),
        comes(dice.randint(0, 1), dice.randint(1, 20)),
        gives(several),
        ticks(dice.choice((0, 1, 1, 2, 3, 7, 1001))),
        ticks(dice.choice((1, 2, 3))),
        shut(dice.randint(0, 2)),
        where(several),
        where(several),
        begins(dice.randint(0, 3), *[some_span(dice) for _ in range(dice.randint(0, 3))])
        if dice.randint(0, 9) == 0 else where(several),
    ))


def some_line(seed):
    dice = random.Random(seed)
    spans = [some_span(dice) for _ in range(dice.randint(1, 4))]
    return [begins(dice.randint(1, 3), *spans)] + [some_call(dice) for _ in range(79)]


class TheForm(unittest.TestCase):
    def test_each_answer_behind_how_many_numbers_it_has(self):
        self.assertEqual(answers([7, 0, 1] + [9, 1] + [11, 0] + [1, 2] + [10, 0]),
                         [1, 0] + [2, 1, 0] + [3, 1, 1, 0] + [4, 2, 1, 0, 0] + [1, 0])

    def test_a_row_behind_how_many_numbers_it_has(self):
        self.assertEqual(answers([0, 1, 8, 1, 9, 0, 0, 2, 9, 0, 0, 6]), [1, 3, 2, 9, 0])

    def test_an_empty_row(self):
        self.assertEqual(answers([0, 1, 0, 6]), [1, -1, 2, 1, 0])

    def test_a_refusal_is_its_number_alone(self):
        self.assertEqual(answers([1, 0, 11, 4, 9, 0, 7, 2, 1]), [1, -1, 1, -2, 1, -1, 1, -1])

    def test_the_greatest_numbers(self):
        calls = [begins(MOST, (1, 1, 0, 0)), begins_raw(1, [MOST] * 60), day(MOST), found(MOST, MOST, MOST),
                 mended(MOST, MOST), strike(MOST), right(MOST, MOST), comes(MOST, MOST), gives(MOST), ticks(MOST), shut(MOST),
                 where(MOST)]
        self.assertEqual(ask(*calls), [[-1], [-1], [-1], [-2], [-2], [-2], [-2], [-1], [-2], [-1], [-1], [-2]])

    def test_eighty_calls(self):
        self.assertEqual(answers([9, 1000] * 80)[-3:], [2, 80000, 0])

    def test_plain_whole_numbers(self):
        for seed in range(20):
            for number in answers(flat(some_line(seed))):
                self.assertIs(type(number), int)


class EveryLine(unittest.TestCase):
    def test_the_list_handed_in_is_as_it_was(self):
        for seed in range(50):
            line = flat(some_line(seed))
            kept = list(line)
            answers(line)
            self.assertEqual(line, kept)

    def test_a_second_time_answers_as_the_first(self):
        for seed in range(50):
            line = flat(some_line(seed))
            first = answers(line)
            answers(flat(some_line(seed + 1)))
            self.assertEqual(answers(line), first)

    def test_what_is_given_back_is_not_kept(self):
        first = answers([9, 1])
        first.append(7)
        self.assertEqual(answers([9, 1]), [2, 1, 0])

    def test_a_line_answers_as_its_beginning_did(self):
        calls = some_line(5)
        whole = answers(flat(calls))
        for many in range(1, 80):
            part = answers(flat(calls[:many]))
            self.assertEqual(whole[:len(part)], part)

    def test_after_a_refusal_all_is_as_it_was(self):
        refused = 0
        for seed in range(300):
            calls = some_line(seed)
            answered = ask(*calls)
            taken = [number for number, answer in enumerate(answered) if answer[0] >= 0]
            refused += len(calls) - len(taken)
            again = ask(*[calls[number] for number in taken])
            self.assertEqual(again, [answered[number] for number in taken], seed)
        self.assertGreater(refused, 3000)

    def test_behind_begins_as_if_it_stood_first(self):
        for seed in range(100):
            calls = [*some_line(seed)[:40], *some_line(seed + 1000)[:40]]
            self.assertEqual(ask(*calls)[40:], ask(*calls[40:]))


class WhatHoldsOnTheBridge(unittest.TestCase):
    def check_lane(self, bridge, seed):
        lane = bridge.lane
        for span, vehicles in lane.who_by_span().items():
            self.assertLessEqual(sum(v.weight for v in vehicles), lane.limits[span], seed)
        cells = [v.cell for v in lane.crossing]
        self.assertEqual(len(set(cells)), len(cells), seed)
        self.assertLessEqual(len({v.side for v in lane.crossing}), 1, seed)
        self.assertTrue(all(v.weight <= min(lane.limits) for v in lane.waiting[0] + lane.waiting[1]), seed)

    def test_no_span_bears_more_than_its_limit(self):
        for seed in range(40):
            calls = [*some_line(seed)]
            for many in range(1, 81, 3):
                self.check_lane(bridge_after(*calls[:many]), seed)

    def test_everybody_is_told_of_once(self):
        for seed in range(200):
            calls = [call for call in some_line(seed) if call[0] != 0 or call[1] == 0]
            calls = [begins(2, sound_span(2, 20), (2, 30, 1, 3))] + calls[:70]
            line = flat(calls + [shut(0)] + [ticks(1000)])
            gone = []
            for call, answer in zip(calls, take_apart(answers(line), len(calls) + 2)):
                if call[0] in (1, 6, 9) and answer[0] >= 0:
                    lists = answer[1:]
                    while lists:
                        gone.extend(lists[1:1 + lists[0]])
                        lists = lists[1 + lists[0]:]
            self.assertEqual(len(gone), len(set(gone)), seed)


if __name__ == "__main__":
    unittest.main()
