"""Promise 2, and what counts by all entries, as it is seen by what is posted."""

import unittest

from tests.helper import MOST, ask, begins, day, found, last, mended, post, right, strike

# It bears 1000, a unit of its crack costs 1, and it does not grow.
STILL = (1, 1000, 1, 0)


def posted(*calls, spans=(STILL,)):
    """What is posted behind these calls; none of them may be refused."""
    answered = ask(begins(1, *spans), *calls, post())
    assert all(answer[0] >= 0 for answer in answered), answered
    return answered[-1][0]


class FoundAndMended(unittest.TestCase):
    def test_answers_the_number_of_the_entry(self):
        self.assertEqual(ask(begins(1, STILL, STILL), found(0, 0, 5), mended(1, 0), found(1, 0, 1000), mended(0, 0)),
                         [[2], [0], [1], [2], [3]])

    def test_no_such_part(self):
        for part in (2, 3, MOST):
            self.assertEqual(ask(begins(1, STILL, STILL), found(part, 0, 0), mended(part, 0), found(1, 0, 0)),
                             [[2], [-2], [-2], [0]])

    def test_the_day_is_behind_today(self):
        self.assertEqual(ask(day(7), found(0, 8, 0), mended(0, 8), found(0, MOST, 0), mended(0, MOST), found(0, 7, 0),
                             mended(0, 7), found(0, 0, 0), mended(0, 0)),
                         [[7, 0, 0], [-1], [-1], [-1], [-1], [0], [1], [2], [3]])

    def test_crack_edges(self):
        self.assertEqual(ask(found(0, 0, 0), found(0, 0, 1000), found(0, 0, 1001), found(0, 0, MOST)),
                         [[0], [1], [-1], [-1]])

    def test_sixty_entries(self):
        sixty = [found(0, 0, 0), mended(0, 0)] * 29 + [strike(0), right(2, 4)]
        self.assertEqual(ask(*sixty, found(0, 0, 0), mended(0, 0))[-3:], [[59], [-5], [-5]])

    def test_the_first_that_is_due(self):
        full = [found(0, 0, 0)] * 60
        self.assertEqual(ask(*full, found(1, 1, 1001), found(0, 1, 0), found(0, 0, 1001), mended(1, 1),
                             mended(0, 1))[60:],
                         [[-2], [-1], [-1], [-2], [-1]])
        self.assertEqual(ask(found(1, 1, 1001), mended(1, 1)), [[-2], [-2]])


class Strike(unittest.TestCase):
    def test_answers_the_number_of_the_new_entry(self):
        self.assertEqual(ask(found(0, 0, 5), mended(0, 0), strike(1), strike(0)), [[0], [1], [2], [3]])

    def test_no_such_entry(self):
        self.assertEqual(ask(strike(0), found(0, 0, 5), strike(1), strike(MOST), strike(0)),
                         [[-2], [0], [-2], [-2], [1]])

    def test_it_is_struck(self):
        self.assertEqual(ask(found(0, 0, 5), mended(0, 0), strike(0), strike(0), strike(1), strike(1)),
                         [[0], [1], [2], [-4], [3], [-4]])

    def test_of_a_sort_that_can_not_be(self):
        self.assertEqual(ask(found(0, 0, 5), found(0, 0, 5), right(0, 3), strike(1), strike(2), strike(3)),
                         [[0], [1], [2], [3], [-4], [-4]])

    def test_sixty_entries_come_last(self):
        full = [found(0, 0, 0)] * 58 + [strike(3), right(4, 1)]
        self.assertEqual(ask(*full, strike(0), strike(3), strike(58), strike(59), strike(60))[60:],
                         [[-5], [-4], [-4], [-4], [-2]])


class Right(unittest.TestCase):
    def test_answers_the_number_of_the_new_entry(self):
        self.assertEqual(ask(found(0, 0, 5), right(0, 0), right(0, 1000)), [[0], [1], [2]])

    def test_no_such_entry(self):
        self.assertEqual(ask(right(0, 1), found(0, 0, 5), right(1, 1), right(MOST, 1)), [[-2], [0], [-2], [-2]])

    def test_it_is_struck(self):
        self.assertEqual(ask(found(0, 0, 5), right(0, 4), strike(0), right(0, 3)), [[0], [1], [2], [-4]])

    def test_of_a_sort_that_can_not_be(self):
        self.assertEqual(ask(mended(0, 0), found(0, 0, 5), found(0, 0, 6), right(1, 4), strike(2), right(0, 1),
                             right(3, 1), right(4, 1)),
                         [[0], [1], [2], [3], [4], [-4], [-4], [-4]])

    def test_crack_edges(self):
        self.assertEqual(ask(found(0, 0, 5), right(0, 1001), right(0, MOST), right(0, 1000)), [[0], [-1], [-1], [1]])

    def test_the_first_that_is_due(self):
        self.assertEqual(ask(mended(0, 0), right(0, 1001), right(1, 1001)), [[0], [-4], [-2]])
        full = [found(0, 0, 0)] * 58 + [mended(0, 0), strike(1)]
        self.assertEqual(ask(*full, right(0, 1), right(0, 1001), right(58, 1), right(1, 1), right(60, 1))[60:],
                         [[-5], [-1], [-4], [-4], [-2]])


class WhatCounts(unittest.TestCase):
    def test_nothing_is_entered(self):
        self.assertEqual(posted(), 1000)

    def test_found(self):
        self.assertEqual(posted(found(0, 0, 40)), 960)

    def test_mended(self):
        self.assertEqual(posted(found(0, 0, 40), mended(0, 0)), 1000)
        self.assertEqual(posted(found(0, 0, 40), mended(0, 0), found(0, 0, 7)), 993)

    def test_of_several_on_one_day_the_one_made_last(self):
        self.assertEqual(posted(found(0, 0, 40), found(0, 0, 10), found(0, 0, 30)), 970)

    def test_the_latest_day_not_the_last_made(self):
        self.assertEqual(posted(day(9), found(0, 8, 10), found(0, 3, 500)), 990)
        self.assertEqual(posted(day(9), mended(0, 8), found(0, 7, 500)), 1000)
        self.assertEqual(posted(day(9), found(0, 8, 10), mended(0, 7)), 990)

    def test_an_earlier_day_counts_if_it_is_the_only_one(self):
        self.assertEqual(posted(day(9), found(0, 3, 500)), 500)

    def test_an_entry_of_today_counts_today(self):
        self.assertEqual(posted(day(9), found(0, 8, 10), found(0, 9, 20)), 980)

    def test_struck_ones_count_no_more(self):
        self.assertEqual(posted(found(0, 0, 40), strike(0)), 1000)
        self.assertEqual(posted(found(0, 0, 40), found(0, 0, 50), strike(1)), 960)
        self.assertEqual(posted(found(0, 0, 40), mended(0, 0), strike(1)), 960)
        self.assertEqual(posted(found(0, 0, 40), mended(0, 0), strike(0)), 1000)
        self.assertEqual(posted(day(5), found(0, 2, 40), found(0, 5, 60), found(0, 1, 3), strike(1), strike(0)), 997)

    def test_put_right(self):
        self.assertEqual(posted(found(0, 0, 40), right(0, 41)), 959)
        self.assertEqual(posted(found(0, 0, 40), right(0, 0)), 1000)

    def test_put_right_several_times(self):
        self.assertEqual(posted(found(0, 0, 40), right(0, 90), right(0, 30), right(0, 70)), 930)

    def test_put_right_it_keeps_its_day_and_its_place(self):
        self.assertEqual(posted(found(0, 0, 40), found(0, 0, 50), right(0, 90)), 950)
        self.assertEqual(posted(day(5), found(0, 2, 40), found(0, 1, 50), right(1, 90)), 960)
        self.assertEqual(posted(day(5), found(0, 1, 40), mended(0, 1), right(0, 90)), 1000)

    def test_put_right_and_then_struck(self):
        self.assertEqual(posted(found(0, 0, 40), found(0, 0, 50), right(1, 90), strike(1)), 960)

    def test_entries_of_another_part_do_not_count(self):
        two = ((1, 1000, 1, 0), (1, 1000, 2, 0))
        self.assertEqual(posted(found(1, 0, 40), spans=two), 920)
        self.assertEqual(posted(found(1, 0, 40), mended(0, 0), spans=two), 920)
        self.assertEqual(posted(found(1, 0, 40), found(0, 0, 90), spans=two), 910)

    def test_the_limit_is_what_the_weakest_bears(self):
        three = ((1, 300, 1, 0), (1, 200, 1, 0), (1, 400, 1, 0))
        self.assertEqual(posted(spans=three), 200)
        self.assertEqual(posted(found(2, 0, 250), spans=three), 150)
        self.assertEqual(posted(found(0, 0, 101), spans=three), 199)

    def test_zero_at_the_least(self):
        for crack, answer in ((9, 1), (10, 0), (11, 0), (1000, 0)):
            self.assertEqual(posted(found(0, 0, crack), spans=((1, 10, 1, 0),)), answer)
        self.assertEqual(posted(found(0, 0, 1000), spans=((1, 1000, 100, 100),)), 0)

    def test_the_greatest_loss(self):
        self.assertEqual(posted(found(0, 0, 9), spans=((1, 1000, 100, 0),)), 100)

    def test_no_loss(self):
        self.assertEqual(posted(found(0, 0, 1000), spans=((1, 1000, 0, 100),)), 1000)


class Growth(unittest.TestCase):
    def test_rounded_up_from_day_zero_without_a_source(self):
        for days, crack in ((1, 1), (99, 1), (100, 1), (101, 2), (200, 2), (201, 3)):
            with self.subTest(days=days):
                self.assertEqual(posted(day(days), spans=((1, 1000, 1, 1),)), 1000 - crack)

    def test_by_more_in_a_hundred_days(self):
        for days, crack in ((1, 1), (2, 1), (3, 1), (4, 2), (6, 2), (7, 3), (10, 4), (100, 33)):
            with self.subTest(days=days):
                self.assertEqual(posted(day(days), spans=((1, 1000, 1, 33),)), 1000 - crack)

    def test_the_most(self):
        self.assertEqual(posted(day(70), spans=((1, 1000, 2, 100),)), 860)

    def test_from_the_day_of_the_source(self):
        grows = ((1, 1000, 1, 10),)
        self.assertEqual(posted(day(100), found(0, 100, 5), spans=grows), 995)
        self.assertEqual(posted(day(100), found(0, 70, 5), spans=grows), 992)
        self.assertEqual(posted(day(100), found(0, 69, 5), spans=grows), 991)
        self.assertEqual(posted(day(100), found(0, 0, 5), spans=grows), 985)

    def test_mended_it_grows_again(self):
        grows = ((1, 1000, 1, 10),)
        self.assertEqual(posted(found(0, 0, 500), day(100), mended(0, 100), spans=grows), 1000)
        self.assertEqual(posted(found(0, 0, 500), day(100), mended(0, 60), spans=grows), 996)
        self.assertEqual(posted(found(0, 0, 500), day(100), mended(0, 59), spans=grows), 995)

    def test_the_latest_source_though_it_says_less(self):
        grows = ((1, 1000, 1, 10),)
        self.assertEqual(posted(day(100), found(0, 50, 300), found(0, 90, 7), spans=grows), 992)

    def test_a_struck_source_gives_way_to_the_one_before(self):
        grows = ((1, 1000, 1, 10),)
        self.assertEqual(posted(day(100), found(0, 50, 300), found(0, 90, 7), strike(1), spans=grows), 695)
        self.assertEqual(posted(day(100), found(0, 50, 300), strike(0), spans=grows), 990)

    def test_put_right_it_grows_from_its_own_day(self):
        grows = ((1, 1000, 1, 10),)
        self.assertEqual(posted(found(0, 0, 300), day(100), right(0, 20), spans=grows), 970)

    def test_a_crack_may_grow_above_a_thousand(self):
        self.assertEqual(posted(found(0, 0, 1000), day(100), spans=((1, 1000, 1, 100), (1, 1, 0, 0))), 0)
        self.assertEqual(posted(*[day(10000)] * 10, spans=((1, 1000, 100, 100),)), 0)
        self.assertEqual(posted(*[day(10000)] * 10, spans=((1, 1000, 0, 100),)), 1000)


class RefusedOnesAreNotEntered(unittest.TestCase):
    def test_no_number_is_used_and_nothing_is_changed(self):
        refused = [found(1, 0, 9), found(0, 1, 9), found(0, 0, 1001), mended(1, 0), mended(0, 1), strike(9), strike(1),
                   right(9, 9), right(1, 9), right(0, 1001)]
        answered = ask(begins(1, STILL), found(0, 0, 40), right(0, 50), *refused, post(), found(0, 0, 3))
        self.assertEqual(answered[3:], [[-2], [-1], [-1], [-2], [-1], [-2], [-4], [-2], [-4], [-1], [950, 0], [2]])

    def test_nothing_is_changed_when_the_file_is_full(self):
        full = [found(0, 0, 40)] * 60
        self.assertEqual(ask(begins(1, STILL), *full, found(0, 0, 3), mended(0, 0), strike(59), right(59, 9),
                             post())[61:],
                         [[-5], [-5], [-5], [-5], [960, 0]])

    def test_refused_as_struck_it_stays_struck(self):
        self.assertEqual(last(begins(1, STILL), found(0, 0, 40), strike(0), strike(0), right(0, 50), post()), [1000, 0])


if __name__ == "__main__":
    unittest.main()
