"""play: what it costs if just these are wanted."""

import unittest

from tests.helper import (
    HUGE, NONE, RANGE, ask, asked_of, begin, chance, last, mark, play, prices, told, up,
)

# The marks are 1, 3, 3, 3, 3.
SHELF = ((2, 1, 5), 10, [(1, 1), (3, 1)])
PLAIN = told(*SHELF)
EMPTY = [begin(2, 1, 5, 10)]


class Ordinary(unittest.TestCase):
    def test_of_each_day_bought_kept_missed(self):
        self.assertEqual(asked_of(SHELF, play(0, 1, 3), play(0, 3, 1)),
                         [[13, 3, 2, 0, 0, 0, 1], [8, 3, 0, 0, 1, 0, 0]])

    def test_the_days_to_come_get_fewer(self):
        # Up to 3 as long as another day is to come, up to 1 on the last.
        self.assertEqual(asked_of(SHELF, play(0, 3, 3, 3, 3, 3)), [[36] + [3, 0, 0] * 4 + [1, 0, 2]])
        self.assertEqual(asked_of(SHELF, play(0, 3)), [[12, 1, 0, 2]])

    def test_what_is_left_lies_there_the_next_day(self):
        self.assertEqual(asked_of(SHELF, play(2, 0, 2, 0)), [[7, 1, 3, 0, 0, 1, 0, 0, 1, 0]])

    def test_other_numbers_than_those_told_may_be_wanted(self):
        self.assertEqual(asked_of(SHELF, play(0, 1000), play(0, 2)), [[4997, 1, 0, 999], [7, 1, 0, 1]])

    def test_it_is_filled_as_up_tells(self):
        for there in range(11):
            filled = asked_of(SHELF, up(2, there))[0][0]
            self.assertEqual(asked_of(SHELF, play(there, 0, 0))[0][1:3], [filled - there, filled], there)

    def test_by_the_prices_of_now(self):
        self.assertEqual(ask(*PLAIN, prices(1, 0, 100), play(0, 3, 1))[-1], [6, 3, 0, 0, 3, 2, 0])

    def test_the_greatest_cost(self):
        shelf = ((1000, 1000, 1000), 20, [(20, 100)])
        self.assertEqual(asked_of(shelf, play(0, *[1000] * 5)), [[5000000] + [0, 0, 1000] * 5])


class Edges(unittest.TestCase):
    def test_missing_as_dear_as_buying(self):
        self.assertEqual(asked_of(((3, 0, 3), 5, [(2, 1)]), play(0, 2, 2)), [[12, 0, 0, 2, 0, 0, 2]])

    def test_buying_for_nothing(self):
        self.assertEqual(asked_of(((0, 1, 4), 5, [(0, 1), (2, 1)]), play(0, 2, 0, 0)),
                         [[4, 2, 0, 0, 2, 2, 0, 0, 2, 0]])

    def test_keeping_for_nothing(self):
        self.assertEqual(asked_of(((2, 0, 3), 10, [(1, 1), (3, 1)]), play(0, 1, 3)), [[9, 3, 2, 0, 0, 0, 1]])

    def test_all_for_nothing(self):
        self.assertEqual(asked_of(((0, 0, 0), 3, [(1, 1)]), play(1, 2, 0)), [[0, 0, 0, 1, 0, 0, 0]])

    def test_nothing_wanted_ever(self):
        shelf = ((2, 3, 4), 6, [(0, 5)])
        self.assertEqual(asked_of(shelf, play(1, 0, 1000), play(0, 0)), [[3999, 0, 1, 0, 0, 0, 999], [0, 0, 0, 0]])

    def test_more_wanted_than_there_is_room_for(self):
        self.assertEqual(asked_of(((1, 1, 10), 2, [(5, 1)]), play(0, 1, 5)), [[34, 2, 1, 0, 1, 0, 3]])

    def test_one_row(self):
        self.assertEqual(asked_of(((2, 1, 5), 10, [(3, 7)]), play(0, 3, 3, 3, 3, 3)), [[30] + [3, 0, 0] * 5])

    def test_the_last_day(self):
        self.assertEqual(asked_of(((4, 1, 5), 10, [(0, 1), (2, 1)]), play(0, 2)), [[10, 0, 0, 2]])

    def test_a_mark_as_high_as_the_room(self):
        for room in (1, 20):
            shelf = ((1, 0, 1000), room, [(20, 1)])
            self.assertEqual(asked_of(shelf, play(0, 20), play(room, 20)),
                             [[room + 1000 * (20 - room), room, 0, 20 - room], [1000 * (20 - room), 0, 0, 20 - room]])

    def test_more_there_than_the_mark(self):
        self.assertEqual(asked_of(((2, 1, 5), 10, [(1, 1)]), play(3, 1, 1, 1)), [[3, 0, 2, 0, 0, 1, 0, 0, 0, 0]])
        self.assertEqual(asked_of(SHELF, play(4, 0)), [[4, 0, 4, 0]])

    def test_the_same_number_in_two_rows(self):
        two = asked_of(((2, 1, 5), 8, [(3, 1), (0, 4), (3, 2)]), play(1, 3, 0, 3, 4))
        self.assertEqual(two, asked_of(((2, 1, 5), 8, [(3, 3), (0, 4)]), play(1, 3, 0, 3, 4)))


class Refused(unittest.TestCase):
    def test_1_to_5_are_wanted(self):
        for many in (0, 6, 7, 8):
            self.assertEqual(last(*PLAIN, play(0, *[1] * many)), RANGE, many)
        for many in (1, 2, 3, 4, 5):
            self.assertEqual(len(last(*PLAIN, play(0, *[1] * many))), 1 + 3 * many, many)

    def test_none_is_above_1000(self):
        for wanted in ([1001], [HUGE], [1001, 1], [1, 1, 1, 1, 1001], [1, HUGE, 1]):
            self.assertEqual(last(*PLAIN, play(0, *wanted)), RANGE, wanted)
        self.assertEqual(len(last(*PLAIN, play(0, *[1000] * 5))), 16)

    def test_what_is_there_is_at_most_the_room(self):
        for there in (11, 1000, HUGE):
            self.assertEqual(last(*PLAIN, play(there, 1)), RANGE, there)
        self.assertEqual(last(*PLAIN, play(10, 1)), [9, 0, 9, 0])

    def test_none_without_chances(self):
        for call in (play(0, 1), play(10, *[1000] * 5)):
            self.assertEqual(last(*EMPTY, call), NONE, call)

    def test_out_of_range_is_told_ahead_of_none(self):
        for call in (play(0), play(0, *[1] * 6), play(0, *[1] * 8), play(0, 1001), play(11, 1)):
            self.assertEqual(last(*EMPTY, call), RANGE, call)

    def test_a_refused_row_is_passed_over_whole(self):
        for many in range(9):
            row = play(0, *[4] * many)
            self.assertEqual(ask(*PLAIN, row, mark(2), chance(2, 5))[-2:], [[3], [7]], many)
            self.assertEqual(ask(row, begin(1, 1, 1, 1), chance(2, 5))[-2:], [[0], [5]], many)


if __name__ == "__main__":
    unittest.main()
