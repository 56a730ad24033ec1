"""known and limit of promise 6: by the first n entries."""

import unittest

from tests.helper import (MOST, ask, begins, comes, day, found, known, last, limit, mended, post, right, sound_span, state,
                          strike, ticks)

# It bears 1000, a unit costs 2, and it grows by 10 in a hundred days.
GROWS = (1, 1000, 2, 10)
FILE = (begins(1, GROWS, GROWS), day(100), found(0, 40, 50), found(0, 40, 60), right(0, 70), mended(0, 80), found(1, 30, 9),
        strike(3), right(1, 20), strike(1))


def crack_and_source(part, on_day, n):
    answer = last(*FILE, known(part, on_day, n))
    return answer[0], answer[2]


class Known(unittest.TestCase):
    def test_at_the_beginning(self):
        self.assertEqual(ask(known(0, 0, 0), known(0, 100000, 0)), [[0, 2, 0, 1], [0, 2, 0, 1]])

    def test_by_none(self):
        self.assertEqual(last(*FILE, known(0, 0, 0)), [0, 2, 0, 1000])
        self.assertEqual(last(*FILE, known(0, 100, 0)), [10, 2, 0, 980])

    def test_by_each_number_of_entries(self):
        # Found twice, put right, mended, the other part's, the mending struck, put right, struck.
        self.assertEqual([crack_and_source(0, 90, n) for n in range(9)],
                         [(9, 0), (55, 1), (65, 2), (65, 2), (1, 4), (1, 4), (65, 2), (25, 2), (75, 1)])

    def test_the_other_part(self):
        self.assertEqual([crack_and_source(1, 50, n) for n in (0, 4, 5, 8)], [(5, 0), (5, 0), (11, 5), (11, 5)])

    def test_days_before_and_of_the_source(self):
        calls = [known(0, 39, 2), known(0, 40, 2), known(0, 41, 2), known(0, 79, 4), known(0, 80, 4)]
        self.assertEqual(ask(*FILE, *calls)[-5:],
                         [[4, 2, 0, 992], [60, 2, 2, 880], [61, 2, 2, 878], [64, 2, 2, 872], [0, 2, 4, 1000]])

    def test_today_and_days_to_come(self):
        self.assertEqual(ask(*FILE, known(1, 100, 8), known(1, 101, 8), known(1, 1030, 8), known(1, 100000, 8))[-4:],
                         [[16, 2, 5, 968], [17, 2, 5, 966], [109, 2, 5, 782], [10006, 2, 5, 0]])

    def test_growth_rounded_up(self):
        # 7 units in a hundred days.
        calls = [begins(1, (1, 1000, 1, 7)), day(300), found(0, 200, 5)]
        cracks = [last(*calls, known(0, on_day, 1))[0] for on_day in (199, 200, 201, 214, 215, 300, 301)]
        self.assertEqual(cracks, [14, 5, 6, 6, 7, 12, 13])

    def test_mended_grows_too(self):
        calls = [begins(1, (1, 1000, 1, 100)), day(50), found(0, 10, 500), mended(0, 20)]
        self.assertEqual(ask(*calls, known(0, 19, 2), known(0, 20, 2), known(0, 25, 2))[-3:],
                         [[509, 2, 1, 491], [0, 2, 2, 1000], [5, 2, 2, 995]])

    def test_the_latest_day_though_it_was_made_first(self):
        calls = [begins(1, (1, 1000, 1, 0)), day(50), found(0, 30, 3), found(0, 20, 2), found(0, 40, 4)]
        self.assertEqual(ask(*calls, known(0, 29, 3), known(0, 30, 3), known(0, 39, 3), known(0, 40, 3), known(0, 45, 2))[-5:],
                         [[2, 2, 2, 998], [3, 2, 1, 997], [3, 2, 1, 997], [4, 2, 3, 996], [3, 2, 1, 997]])

    def test_of_one_day_the_one_made_last_though_an_earlier_one_is_put_right_later(self):
        calls = [begins(1, (1, 1000, 1, 0)), found(0, 0, 3), found(0, 0, 2), right(0, 9)]
        self.assertEqual(last(*calls, known(0, 0, 3)), [2, 2, 2, 998])

    def test_put_right_several_times_the_last_one_is_meant(self):
        calls = [begins(1, (1, 1000, 1, 0)), found(0, 0, 3), right(0, 4), right(0, 0), right(0, 1000)]
        self.assertEqual([last(*calls, known(0, 0, n)) for n in range(5)],
                         [[0, 2, 0, 1000], [3, 2, 1, 997], [4, 2, 1, 996], [0, 2, 1, 1000], [1000, 2, 1, 0]])

    def test_the_first_entry_and_none_are_told_apart(self):
        calls = [begins(1, (1, 1000, 1, 0)), found(0, 0, 0)]
        self.assertEqual(ask(*calls, known(0, 0, 0), known(0, 0, 1))[-2:], [[0, 2, 0, 1000], [0, 2, 1, 1000]])

    def test_all_struck_there_is_none(self):
        calls = [begins(1, (1, 1000, 1, 0)), found(0, 0, 9), mended(0, 0), strike(0), strike(1)]
        self.assertEqual([last(*calls, known(0, 0, n))[2] for n in range(5)], [0, 1, 2, 2, 0])

    def test_zero_at_the_least(self):
        self.assertEqual(ask(begins(1, (1, 5, 100, 0)), found(0, 0, 1), known(0, 0, 1), found(0, 0, 1000), known(0, 0, 2))[2:],
                         [[1, 2, 1, 0], [1], [1000, 2, 2, 0]])

    def test_the_greatest_crack(self):
        calls = [begins(1, (1, 1000, 100, 100)), found(0, 0, 1000), known(0, 100000, 1)]
        self.assertEqual(last(*calls), [101000, 2, 1, 0])

    def test_sixty_entries(self):
        calls = [begins(1, (1, 1000, 1, 0))] + [found(0, 0, crack) for crack in range(60)]
        self.assertEqual(ask(*calls, known(0, 0, 60), known(0, 0, 30), known(0, 0, 61))[-3:],
                         [[59, 2, 60, 941], [29, 2, 30, 971], [-1]])

    def test_no_such_part(self):
        self.assertEqual(ask(known(1, 0, 0), known(MOST, 0, 0), begins(1, *[GROWS] * 12), known(11, 0, 0), known(12, 0, 0)),
                         [[-2], [-2], [12], [0, 2, 0, 1000], [-2]])

    def test_no_such_part_is_told_first(self):
        self.assertEqual(ask(known(1, 100001, 1), known(MOST, MOST, MOST)), [[-2], [-2]])

    def test_day_edges(self):
        self.assertEqual(ask(known(0, 100000, 0), known(0, 100001, 0), known(0, MOST, 0)), [[0, 2, 0, 1], [-1], [-1]])

    def test_fewer_entries(self):
        self.assertEqual(ask(known(0, 0, 1), known(0, 0, MOST), found(0, 0, 0), known(0, 0, 1), known(0, 0, 2)),
                         [[-1], [-1], [0], [0, 2, 1, 1], [-1]])


class Limit(unittest.TestCase):
    def test_at_the_beginning(self):
        self.assertEqual(ask(limit(0, 0), limit(100000, 0)), [[1, 3, 0, 0, 0], [1, 3, 0, 0, 0]])

    def test_the_part_that_bears_least(self):
        calls = [begins(1, sound_span(1, 30), (1, 40, 1, 0), sound_span(1, 50))]
        self.assertEqual(ask(*calls, limit(0, 0), found(1, 0, 11), limit(0, 1), limit(0, 0))[1:],
                         [[30, 3, 0, 0, 0], [0], [29, 3, 1, 1, 11], [30, 3, 0, 0, 0]])

    def test_of_several_the_first(self):
        calls = [begins(1, sound_span(1, 50), (1, 40, 1, 0), (1, 30, 1, 0), sound_span(1, 30))]
        self.assertEqual(ask(*calls, limit(0, 0), found(1, 0, 10), limit(0, 1), found(1, 0, 9), limit(0, 2))[1::2],
                         [[30, 3, 2, 0, 0], [30, 3, 1, 1, 10], [30, 3, 2, 0, 0]])

    def test_of_several_that_bear_nothing_the_first(self):
        calls = [begins(1, sound_span(1, 9), (1, 5, 1, 0), (1, 900, 1, 0)), found(2, 0, 1000), found(1, 0, 5)]
        self.assertEqual(last(*calls, limit(0, 2)), [0, 3, 1, 2, 5])

    def test_by_each_number_of_entries(self):
        self.assertEqual([last(*FILE, limit(90, n)) for n in range(9)],
                         [[982, 3, 0, 0, 9], [890, 3, 0, 1, 55], [870, 3, 0, 2, 65], [870, 3, 0, 2, 65], [982, 3, 1, 0, 9],
                          [970, 3, 1, 5, 15], [870, 3, 0, 2, 65], [950, 3, 0, 2, 25], [850, 3, 0, 1, 75]])

    def test_days_to_come(self):
        # The second part is sound longer, but grows faster: both bear 90 on the day 1000.
        calls = [begins(1, (1, 100, 1, 1), (1, 190, 1, 10))]
        self.assertEqual(ask(*calls, limit(0, 0), limit(1000, 0), limit(1001, 0), limit(1011, 0))[1:],
                         [[100, 3, 0, 0, 0], [90, 3, 0, 0, 10], [89, 3, 0, 0, 11], [88, 3, 1, 0, 102]])

    def test_what_is_posted_does_not_count(self):
        calls = [begins(1, (1, 10, 1, 0)), found(0, 0, 3), post(), mended(0, 0)]
        self.assertEqual(ask(*calls, limit(0, 2), limit(0, 1), limit(0, 0))[-3:],
                         [[10, 3, 0, 2, 0], [7, 3, 0, 1, 3], [10, 3, 0, 0, 0]])

    def test_day_edges(self):
        self.assertEqual(ask(limit(100000, 0), limit(100001, 0), limit(MOST, 0)), [[1, 3, 0, 0, 0], [-1], [-1]])

    def test_fewer_entries(self):
        self.assertEqual(ask(limit(0, 1), limit(0, MOST), limit(MOST, MOST), found(0, 0, 0), limit(0, 1), limit(0, 2)),
                         [[-1], [-1], [-1], [0], [1, 3, 0, 1, 0], [-1]])

    def test_twelve_parts_and_sixty_entries(self):
        calls = [begins(1, *[(1, 1000, 1, 0)] * 12)] + [found(number % 12, 0, number) for number in range(60)]
        self.assertEqual(ask(*calls, limit(0, 60), limit(0, 55), limit(0, 0))[-3:],
                         [[941, 3, 11, 60, 59], [946, 3, 6, 55, 54], [1000, 3, 0, 0, 0]])

    def test_it_only_tells(self):
        calls = [*FILE, comes(0, 5), ticks(1)]
        asked = [limit(90, 3), limit(0, 99), known(0, 90, 3), known(0, 0, 99), known(9, 0, 0)]
        self.assertEqual(last(*calls, *asked, state()), last(*calls, state()))


if __name__ == "__main__":
    unittest.main()
