"""How calls are handed in and answers given back, and what holds for every line."""

import random
import unittest

from bridgeinuse.office import answers
from tests.helper import (MOST, ask, begins, begins_raw, book, comes, day, due, exposed, falls, flat, found, gives, known, limit,
                          lists_of, loads, mended, post, queue, right, shut, sound_span, state, strike, take_apart, ticks, when,
                          where, wrong)


def some_span(dice):
    return (dice.randint(1, 5), dice.choice((1, 5, 20, 20, 30, 1000)), dice.choice((0, 1, 2, 100)), dice.choice((0, 3, 100)))


def some_call(dice):
    """A call that is mostly taken, and refused often enough."""
    several = dice.randint(0, 7)
    return dice.choice((
        day(dice.choice((0, 1, 2, 30, 10001))),
        found(dice.randint(0, 3), dice.randint(0, 9), dice.choice((0, 1, 3, 9, 1001))),
        mended(dice.randint(0, 3), dice.randint(0, 9)),
        strike(several),
        right(several, dice.choice((0, 2, 5, 1001))),
        post(),
        comes(dice.randint(0, 2), dice.randint(0, 12)),
        comes(dice.randint(0, 1), dice.randint(1, 20)),
        comes(dice.randint(0, 1), dice.randint(1, 20)),
        gives(several),
        ticks(dice.choice((0, 1, 1, 2, 3, 7, 1001))),
        ticks(dice.choice((1, 2, 3))),
        shut(dice.randint(0, 2)),
        where(several),
        where(several),
        begins(dice.randint(0, 3), *[some_span(dice) for _ in range(dice.randint(0, 3))])
        if dice.randint(0, 9) == 0 else where(several),
    ))


def some_telling(dice):
    """A call that only tells."""
    several = dice.randint(0, 7)
    on_day = dice.choice((0, 1, 2, 3, 30, 61, 100000, 100001))
    return dice.choice((
        where(several),
        when(several),
        loads(),
        queue(dice.randint(0, 2)),
        known(dice.randint(0, 4), on_day, several),
        limit(on_day, several),
        wrong(dice.randint(0, 5), dice.choice((0, 2, 5, 30, 501))),
        falls(dice.choice((0, 1, 5, 15, 20, 1001))),
        due(dice.choice((0, 1, 30))),
        exposed(),
        book(dice.choice((0, 1, 2, 3, 30))),
        state(),
    ))


def some_changes(seed, many=79):
    dice = random.Random(seed)
    spans = [some_span(dice) for _ in range(dice.randint(1, 4))]
    return [begins(dice.randint(1, 3), *spans)] + [some_call(dice) for _ in range(many)]


def some_line(seed):
    """Half of it tells."""
    dice = random.Random(seed)
    changes = some_changes(seed, 39)
    return [call for change in changes for call in (change, some_telling(dice))]


def some_days_and_entries(seed):
    """Nine days with vehicles, then some entries; and how many of these there are."""
    dice = random.Random(seed)
    calls = [begins(dice.randint(1, 3), *[(dice.randint(1, 3), 20, 1, dice.choice((0, 50))) for _ in range(4)])]
    for _ in range(8):
        calls += [comes(dice.randint(0, 1), dice.randint(1, 16)) for _ in range(3)] + [ticks(dice.randint(1, 12)), day(1)]
    calls += [found(dice.randint(0, 3), dice.randint(0, 8), dice.randint(0, 20)) for _ in range(8)]
    calls += [mended(dice.randint(0, 3), dice.randint(0, 8)), strike(dice.randint(0, 3)), right(dice.randint(4, 7), 3)]
    return calls, 11


class TheForm(unittest.TestCase):
    def test_each_answer_behind_how_many_numbers_it_has(self):
        self.assertEqual(answers([7, 0, 1] + [9, 1] + [11, 0] + [1, 2] + [10, 0]),
                         [1, 0] + [2, 1, 0] + [3, 1, 1, 0] + [4, 2, 1, 0, 0] + [1, 0])

    def test_a_row_behind_how_many_numbers_it_has(self):
        self.assertEqual(answers([0, 1, 8, 1, 9, 0, 0, 2, 9, 0, 0, 6]), [1, 3, 2, 9, 0])

    def test_an_empty_row(self):
        self.assertEqual(answers([0, 1, 0, 6]), [1, -1, 2, 1, 0])

    def test_a_refusal_is_its_number_alone(self):
        self.assertEqual(answers([1, 0, 11, 4, 9, 0, 7, 2, 1]), [1, -1, 1, -2, 1, -1, 1, -1])

    def test_the_greatest_numbers(self):
        calls = [begins(MOST, (1, 1, 0, 0)), begins_raw(1, [MOST] * 60), day(MOST), found(MOST, MOST, MOST),
                 mended(MOST, MOST), strike(MOST), right(MOST, MOST), comes(MOST, MOST), gives(MOST), ticks(MOST), shut(MOST),
                 where(MOST), when(MOST), queue(MOST), known(MOST, MOST, MOST), known(0, MOST, MOST), limit(MOST, MOST),
                 wrong(MOST, MOST), falls(MOST), due(MOST), book(MOST)]
        self.assertEqual([answer[0] for answer in ask(*calls)],
                         [-1, -1, -1, -2, -2, -2, -2, -1, -2, -1, -1, -2, -2, -1, -2, -1, -1, -1, -1, 0, -1])
        self.assertEqual([len(answer) for answer in ask(*calls)], [1] * 19 + [2, 1])

    def test_empty_lists_and_none(self):
        self.assertEqual(answers([14, 0] + [17, 0, 0] + [19, 0] + [20] + [21, 0] + [13]),
                         [2, 0, 0] + [1, 0] + [2, 0, 0] + [3, 0, 0, 0] + [2, 0, 0] + [3, 0, 1, 0])

    def test_lists_of_the_calls_that_tell(self):
        line = [0, 1, 4, 2, 9, 1, 0] + [7, 0, 6] + [9, 1] + [2, 0, 0, 5]
        told = [12, 0] + [15, 0, 0, 1] + [16, 0, 1] + [17, 0, 0] + [18, 4] + [18, 5] + [20] + [21, 0] + [22]
        self.assertEqual(answers(line + told)[9:],
                         [1, 2] + [4, 5, 2, 1, 4] + [5, 4, 3, 0, 1, 5] + [4, 1, 2, 0, 5] + [1, -6] + [1, 0]
                         + [7, 1, 3, 0, 0, 2, 1, 0] + [5, 1, 3, 0, 6, 1]
                         + [15, 0, 7, 1, 0, 1, 0, 0, 1, 1, 2, 2, 9, 2, 0, 0])

    def test_eighty_calls(self):
        self.assertEqual(answers([9, 1000] * 80)[-3:], [2, 80000, 0])
        for call in (when(0), loads(), queue(0), known(0, 100000, 0), limit(100000, 0), wrong(0, 0), falls(1), due(0), exposed(),
                     book(0), state()):
            told = ask(*[call] * 80)
            self.assertEqual(told, [told[0]] * 80)

    def test_plain_whole_numbers(self):
        for seed in range(20):
            for number in answers(flat(some_line(seed))):
                self.assertIs(type(number), int)


class EveryLine(unittest.TestCase):
    def test_the_list_handed_in_is_as_it_was(self):
        for seed in range(50):
            line = flat(some_line(seed))
            kept = list(line)
            answers(line)
            self.assertEqual(line, kept)

    def test_a_second_time_answers_as_the_first(self):
        for seed in range(50):
            line = flat(some_line(seed))
            first = answers(line)
            answers(flat(some_line(seed + 1)))
            self.assertEqual(answers(line), first)

    def test_what_is_given_back_is_not_kept(self):
        first = answers([9, 1])
        first.append(7)
        self.assertEqual(answers([9, 1]), [2, 1, 0])

    def test_a_line_answers_as_its_beginning_did(self):
        calls = some_line(5)
        whole = answers(flat(calls))
        for many in range(1, 80):
            part = answers(flat(calls[:many]))
            self.assertEqual(whole[:len(part)], part)

    def test_after_a_refusal_all_is_as_it_was(self):
        refused = 0
        for seed in range(300):
            calls = some_line(seed)
            answered = ask(*calls)
            taken = [number for number, answer in enumerate(answered) if answer[0] >= 0]
            refused += len(calls) - len(taken)
            again = ask(*[calls[number] for number in taken])
            self.assertEqual(again, [answered[number] for number in taken], seed)
        self.assertGreater(refused, 3000)

    def test_behind_begins_as_if_it_stood_first(self):
        for seed in range(100):
            calls = [*some_line(seed)[:40], *some_line(seed + 1000)[:40]]
            self.assertEqual(ask(*calls)[40:], ask(*calls[40:]))


class CallsThatTell(unittest.TestCase):
    def test_after_them_all_is_as_it_was(self):
        for seed in range(300):
            dice = random.Random(seed)
            changes = some_changes(seed, 19)
            told = ask(*[call for change in changes for call in (change, *[some_telling(dice) for _ in range(3)])])
            self.assertEqual(told[::4], ask(*changes), seed)

    def test_each_twice_tells_the_same(self):
        for seed in range(100):
            dice = random.Random(seed)
            tellings = [some_telling(dice) for _ in range(20)]
            told = ask(*some_changes(seed, 39), *[call for call in tellings for _ in range(2)])[40:]
            self.assertEqual(told[::2], told[1::2])


class WhatHoldsBetweenCalls(unittest.TestCase):
    def each_line(self, many=150):
        """Calls, and what state tells behind them."""
        for seed in range(many):
            calls = some_changes(seed, 10 + seed % 50)
            yield calls, ask(*calls, state())[-1]

    def test_no_span_bears_more_than_its_limit(self):
        for seed in range(100):
            calls = some_changes(seed, 25)
            told = ask(*[call for change in calls for call in (change, state(), loads())])
            for now, borne in zip(told[1::3], told[2::3]):
                spans = lists_of(now)[1]
                crossing = lists_of(now)[2]
                self.assertTrue(all(load <= most for load, most in zip(lists_of(borne)[0], spans[1::2])), seed)
                self.assertEqual(borne[0], len(crossing) // 2)
                cells = crossing[1::2]
                self.assertEqual(len(set(cells)), len(cells))
                self.assertEqual(cells, sorted(cells, reverse=lists_of(now)[0][1] == 0))

    def test_when_tells_what_ticks_do(self):
        looked = 0
        for calls, now in self.each_line():
            came = now[7]
            told = [ask(*calls, when(vehicle))[-1][0] for vehicle in range(came)]
            for vehicle, many in enumerate(told):
                if many > 0:
                    looked += 1
                    self.assertEqual(ask(*calls, ticks(many), where(vehicle))[-1], [2, 1, now[2] + many])
                else:
                    before = ask(*calls, where(vehicle))[-1]
                    self.assertEqual(many, -6)
                    self.assertEqual(ask(*calls, ticks(1000), where(vehicle))[-1], before)
        self.assertGreater(looked, 100)

    def test_queue_tells_what_where_does(self):
        for calls, now in self.each_line():
            for side in (0, 1):
                answer = ask(*calls, queue(side))[-1]
                waiting = lists_of(answer)[0]
                self.assertEqual(answer[0], len(waiting))
                for place, vehicle in enumerate(waiting):
                    self.assertEqual(ask(*calls, where(vehicle))[-1], [0, 1, place])

    def test_limit_tells_what_known_does(self):
        for calls, now in self.each_line():
            parts = len(lists_of(now)[1]) // 2
            for n in range(now[8] + 1):
                told = ask(*calls, limit(now[0], n), *[known(part, now[0], n) for part in range(parts)])[len(calls):]
                least = min(answer[3] for answer in told[1:])
                weakest = [answer[3] for answer in told[1:]].index(least)
                self.assertEqual(told[0], [least, 3, weakest, told[1 + weakest][2], told[1 + weakest][0]])

    def test_wrong_tells_of_a_line_of_days_what_it_tells_of_each(self):
        for calls, now in self.each_line():
            first = max(0, now[0] - 15)
            told = ask(*calls, *[wrong(on_day, on_day) for on_day in range(first, now[0] + 1)])[len(calls):]
            days = [(answer[2], answer[3]) for answer in told if answer[0] > 0]
            expected = [len(days), 2, days[0][0], max(much for on_day, much in days)] if days else [0]
            self.assertEqual(ask(*calls, wrong(first, now[0]))[-1], expected)

    def test_exposed_tells_what_book_and_known_do(self):
        looked = 0
        for seed in range(60):
            calls, entries = some_days_and_entries(seed)
            expected = []
            for on_day in range(9):
                lines = lists_of(ask(*calls, book(on_day))[-1])[0]
                self.assertEqual(lines[::3], sorted(set(lines[::3])))
                for span, much in zip(lines[::3], lines[1::3]):
                    bears = ask(*calls, known(span, on_day, entries))[-1][3]
                    if much > bears:
                        expected.extend((on_day, span, much - bears))
            told = ask(*calls, exposed())[-1]
            self.assertEqual(lists_of(told)[0], expected)
            self.assertEqual(told[0], len(expected) // 3)
            self.assertEqual(lists_of(told)[1], sorted(set(lists_of(told)[1])))
            looked += told[0]
        self.assertGreater(looked, 300)

    def test_falls_tells_what_limit_does(self):
        for calls, now in self.each_line(80):
            for much in (1, 5, 20, 1000):
                told = ask(*calls, falls(much))[-1][0]
                if told == -6:
                    self.assertGreaterEqual(ask(*calls, limit(100000, now[8]))[-1][0], much)
                else:
                    self.assertLess(ask(*calls, limit(now[0] + told, now[8]))[-1][0], much)
                    self.assertTrue(told == 0 or ask(*calls, limit(now[0] + told - 1, now[8]))[-1][0] >= much)

    def test_everybody_is_told_of_once(self):
        for seed in range(200):
            calls = [call for call in some_changes(seed) if call[0] != 0 or call[1] == 0]
            calls = [begins(2, sound_span(2, 20), (2, 30, 1, 3))] + calls[:70]
            told = take_apart(answers(flat(calls + [shut(0), ticks(1000)])), len(calls) + 2)
            gone = [number for call, answer in zip(calls, told) if call[0] in (1, 6, 9)
                    for numbers in lists_of(answer) for number in numbers]
            self.assertEqual(len(gone), len(set(gone)), seed)


if __name__ == "__main__":
    unittest.main()
