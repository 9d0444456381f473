"""mark, marks, up, value, fill, bymarks: ordinary shelves, edges, refusals."""

import unittest

from shelfmarks.fraction import lowest
from tests.helper import (
    HUGE, NONE, RANGE,
    ask, begin, bymarks, chance, fill, last, mark, marks, told, up, value,
)

# Reckoned by hand, filled up to 0, 1, 2, 3, 4 with nothing there: on the last day
# 10, 7, 7, 7, 10; with two days to come 17, 14, 13, 12, 13.
PLAIN = told((2, 1, 5), 10, [(1, 1), (3, 1)])
EMPTY = [begin(2, 1, 5, 10)]


class Ordinary(unittest.TestCase):
    def test_fill(self):
        self.assertEqual([last(*PLAIN, fill(1, y)) for y in range(5)],
                         [[0, 10, 1], [0, 7, 1], [0, 7, 1], [0, 7, 1], [0, 10, 1]])
        self.assertEqual([last(*PLAIN, fill(2, y)) for y in range(5)],
                         [[0, 17, 1], [0, 14, 1], [0, 13, 1], [0, 12, 1], [0, 13, 1]])

    def test_value(self):
        self.assertEqual([last(*PLAIN, value(1, x)) for x in range(6)],
                         [[0, 7, 1], [0, 5, 1], [0, 3, 1], [0, 1, 1], [0, 2, 1], [0, 3, 1]])
        self.assertEqual([last(*PLAIN, value(2, x)) for x in range(5)],
                         [[0, 12, 1], [0, 10, 1], [0, 8, 1], [0, 6, 1], [0, 5, 1]])

    def test_the_mark_is_the_least_of_those_as_good(self):
        self.assertEqual(last(*PLAIN, mark(1)), [1])
        self.assertEqual(last(*PLAIN, mark(2)), [3])

    def test_marks(self):
        self.assertEqual(last(*PLAIN, marks()), [5, 1, 3, 3, 3, 3])
        self.assertEqual(ask(*PLAIN, *[mark(n) for n in range(1, 6)])[-5:], [[1], [3], [3], [3], [3]])

    def test_up(self):
        self.assertEqual([last(*PLAIN, up(1, x)) for x in range(5)], [[1], [1], [2], [3], [4]])
        self.assertEqual([last(*PLAIN, up(2, x)) for x in range(6)], [[3], [3], [3], [3], [4], [5]])

    def test_bymarks_has_the_last_day_first(self):
        self.assertEqual(last(*PLAIN, bymarks(0, 1, 3)), [0, 12, 1, 0, 1])
        self.assertEqual(last(*PLAIN, bymarks(0, 3, 1)), [0, 14, 1, 2, 1])
        self.assertEqual(last(*PLAIN, bymarks(0, 4, 3)), [0, 15, 1, 3, 1])

    def test_bymarks_buys_nothing_if_more_is_there(self):
        self.assertEqual(last(*PLAIN, bymarks(4, 1)), [0, 2, 1, 0, 1])
        self.assertEqual(last(*PLAIN, bymarks(2, 0)), [0, 3, 1, 0, 1])

    def test_fractions_have_nothing_in_common(self):
        shelf = told((2, 1, 5), 10, [(1, 2), (3, 4)])
        self.assertEqual(last(*shelf, fill(1, 0)), [0, 35, 3])
        self.assertEqual(last(*shelf, fill(1, 1)), [0, 26, 3])
        self.assertEqual(last(*shelf, fill(1, 3)), [0, 20, 3])
        self.assertEqual(last(*shelf, value(1, 1)), [0, 14, 3])
        self.assertEqual(last(*shelf, bymarks(0, 1)), [0, 26, 3, 2, 1])
        self.assertEqual(last(*shelf, bymarks(0, 4)), [0, 29, 3, 3, 1])

    def test_a_fraction_may_be_0_or_below(self):
        self.assertEqual([lowest(0, 7), lowest(-6, 4), lowest(-3, 1)], [[0, 1], [-3, 2], [-3, 1]])

    def test_the_greatest_numbers(self):
        shelf = told((1000, 1000, 1000), 20, [(20, 100)] * 6)
        self.assertEqual(last(*shelf, value(5, 0)), [0, 100000, 1])
        self.assertEqual(last(*shelf, value(5, 20)), [0, 80000, 1])
        self.assertEqual(last(*shelf, marks()), [5, 0, 0, 0, 0, 0])


class Edges(unittest.TestCase):
    def test_missing_as_dear_as_buying(self):
        shelf = told((3, 0, 3), 5, [(2, 1)])
        self.assertEqual(last(*shelf, marks()), [5, 0, 0, 0, 0, 0])
        self.assertEqual(last(*shelf, value(2, 0)), [0, 12, 1])
        self.assertEqual(last(*shelf, fill(2, 4)), [0, 12, 1])
        self.assertEqual(last(*shelf, fill(2, 5)), [0, 15, 1])

    def test_buying_for_nothing(self):
        shelf = told((0, 1, 4), 5, [(0, 1), (2, 1)])
        self.assertEqual(last(*shelf, marks()), [5, 2, 2, 2, 2, 2])
        self.assertEqual(last(*shelf, value(3, 0)), [0, 3, 1])
        self.assertEqual(last(*shelf, value(3, 2)), [0, 3, 1])
        self.assertEqual(last(*shelf, up(1, 5)), [5])

    def test_keeping_for_nothing(self):
        shelf = told((2, 0, 3), 10, [(1, 1), (3, 1)])
        # With two days to come, filled up to 1, 2, 3, 4: 10, 9 1/2, 9 1/4, 9 1/2.
        self.assertEqual(last(*shelf, marks()), [5, 1, 3, 3, 3, 3])
        self.assertEqual(last(*shelf, value(2, 0)), [0, 37, 4])
        self.assertEqual(last(*shelf, value(1, 3)), [0, 0, 1])
        self.assertEqual(last(*shelf, value(1, 10)), [0, 0, 1])
        sure = told((2, 0, 5), 10, [(1, 1)])
        self.assertEqual(last(*sure, marks()), [5, 1, 1, 1, 1, 1])
        self.assertEqual(last(*sure, fill(5, 5)), last(*sure, fill(5, 1)))

    def test_all_for_nothing(self):
        shelf = told((0, 0, 0), 3, [(1, 1), (9, 2)])
        self.assertEqual(last(*shelf, marks()), [5, 0, 0, 0, 0, 0])
        self.assertEqual(last(*shelf, value(5, 3)), [0, 0, 1])
        self.assertEqual(last(*shelf, bymarks(0, 3, 1)), [0, 0, 1, 0, 1])
        self.assertEqual([last(*shelf, up(4, x)) for x in range(4)], [[0], [1], [2], [3]])

    def test_nothing_wanted_ever(self):
        shelf = told((2, 3, 4), 6, [(0, 5)])
        self.assertEqual(last(*shelf, marks()), [5, 0, 0, 0, 0, 0])
        self.assertEqual(last(*shelf, value(5, 0)), [0, 0, 1])
        self.assertEqual(last(*shelf, value(5, 4)), [0, 60, 1])
        self.assertEqual(last(*shelf, fill(5, 4)), [0, 68, 1])
        self.assertEqual(last(*shelf, bymarks(1, 0, 2)), [0, 14, 1, 8, 1])

    def test_more_wanted_than_there_is_room_for(self):
        shelf = told((1, 1, 10), 2, [(5, 1)])
        self.assertEqual(last(*shelf, marks()), [5, 2, 2, 2, 2, 2])
        self.assertEqual(last(*shelf, value(1, 0)), [0, 32, 1])
        self.assertEqual(last(*shelf, value(2, 1)), [0, 63, 1])
        self.assertEqual(last(*shelf, fill(2, 0)), [0, 82, 1])

    def test_one_row(self):
        shelf = told((2, 1, 5), 10, [(3, 7)])
        self.assertEqual(last(*shelf, marks()), [5, 3, 3, 3, 3, 3])
        self.assertEqual(last(*shelf, value(5, 0)), [0, 30, 1])
        self.assertEqual(last(*shelf, bymarks(0, 3, 3, 3, 3, 4)), [0, 31, 1, 1, 1])

    def test_behind_the_last_day_nothing_is_worth_anything(self):
        shelf = told((4, 1, 5), 10, [(0, 1), (2, 1)])
        # A piece bought saves 2 1/2 on this day and costs 4 1/2: it isn't bought.
        self.assertEqual(last(*shelf, mark(1)), [0])
        self.assertEqual(last(*shelf, value(1, 0)), [0, 5, 1])
        self.assertEqual(last(*shelf, value(1, 3)), [0, 2, 1])

    def test_a_mark_as_high_as_the_room(self):
        for room in (1, 20):
            shelf = told((1, 0, 1000), room, [(20, 1)])
            self.assertEqual(last(*shelf, marks()), [5] + [room] * 5)
            self.assertEqual(last(*shelf, up(5, room)), [room])
            self.assertEqual(last(*shelf, bymarks(0, room)), [0, room + 1000 * (20 - room), 1, 0, 1])

    def test_more_there_than_the_mark(self):
        shelf = told((2, 1, 5), 10, [(1, 1)])
        self.assertEqual([last(*shelf, up(1, x)) for x in range(11)], [[1]] + [[x] for x in range(1, 11)])
        self.assertEqual(last(*shelf, value(1, 10)), [0, 9, 1])
        self.assertEqual(last(*shelf, value(3, 3)), [0, 3, 1])
        self.assertEqual(last(*shelf, bymarks(3, 1, 1, 1)), [0, 3, 1, 0, 1])
        self.assertEqual(last(*shelf, bymarks(3, 0, 0, 0)), [0, 3, 1, 0, 1])

    def test_the_same_number_in_two_rows(self):
        asked = [marks(), value(4, 2), fill(3, 5), bymarks(1, 4, 0, 2)]
        two = ask(*told((2, 1, 5), 8, [(3, 1), (0, 4), (3, 2)]), *asked)[-4:]
        one = ask(*told((2, 1, 5), 8, [(3, 3), (0, 4)]), *asked)[-4:]
        self.assertEqual(two, one)


class Refused(unittest.TestCase):
    def test_days_are_1_to_5(self):
        for n in (0, 6, HUGE):
            for call in (mark(n), up(n, 0), value(n, 0), fill(n, 0)):
                self.assertEqual(last(*PLAIN, call), RANGE, call)
        for n in (1, 5):
            for call in (mark(n), up(n, 0), value(n, 0), fill(n, 0)):
                self.assertGreaterEqual(last(*PLAIN, call)[0], 0, call)

    def test_what_is_there_is_at_most_the_room(self):
        for call in (up, value, fill):
            for x in (11, HUGE):
                self.assertEqual(last(*PLAIN, call(1, x)), RANGE, call(1, x))
            self.assertGreaterEqual(last(*PLAIN, call(5, 10))[0], 0, call(5, 10))

    def test_none_without_chances(self):
        for call in (mark(1), mark(5), marks(), up(1, 10), value(5, 10), fill(1, 10), bymarks(10, 10, 0)):
            self.assertEqual(last(*EMPTY, call), NONE, call)

    def test_out_of_range_is_told_ahead_of_none(self):
        for call in (mark(0), mark(6), up(0, 0), up(1, 11), value(6, 0), value(1, 11), fill(0, 0), fill(1, 11),
                     bymarks(0), bymarks(0, *[1] * 6), bymarks(11, 1), bymarks(0, 11)):
            self.assertEqual(last(*EMPTY, call), RANGE, call)

    def test_bymarks_has_1_to_5_marks(self):
        for many in (0, 6, 7, 8):
            self.assertEqual(last(*PLAIN, bymarks(0, *[1] * many)), RANGE, many)
        for many in (1, 2, 3, 4, 5):
            self.assertEqual(len(last(*PLAIN, bymarks(0, *[1] * many))), 5, many)

    def test_bymarks_has_none_above_the_room(self):
        for call in (bymarks(11, 1), bymarks(HUGE, 1), bymarks(0, 11), bymarks(0, 1, 1, 1, 1, 11),
                     bymarks(0, 11, 1), bymarks(0, 1, HUGE, 1)):
            self.assertEqual(last(*PLAIN, call), RANGE, call)
        self.assertEqual(last(*PLAIN, bymarks(10, *[10] * 5))[0], 0)

    def test_a_refused_row_of_marks_is_passed_over_whole(self):
        for many in range(9):
            row = bymarks(0, *[4] * many)
            self.assertEqual(ask(*PLAIN, row, mark(2), chance(2, 5))[-2:], [[3], [7]], many)
            self.assertEqual(ask(row, begin(1, 1, 1, 1), chance(2, 5))[-2:], [[0], [5]], many)


if __name__ == "__main__":
    unittest.main()
