"""same, more, dear, keeping, mean, day, saves: ordinary shelves, edges, refusals."""

import unittest

from tests.helper import (
    HUGE, NONE, RANGE,
    ask, asked_of, begin, chance, day, dear, keeping, last, mark, mean, more, prices, same, saves, told, value,
)

# Reckoned by hand: at the least, with 0, 1, 2, 3, 4 there, on the last day 7, 5, 3, 1, 2
# and with two days to come 12, 10, 8, 6, 5; the marks are 1, 3, 3, 3, 3.
PLAIN = told((2, 1, 5), 10, [(1, 1), (3, 1)])
EMPTY = [begin(2, 1, 5, 10)]


class Ordinary(unittest.TestCase):
    def answered(self, *calls):
        return ask(*PLAIN, *calls)[len(PLAIN):]

    def test_same(self):
        self.assertEqual(self.answered(same(1, 0, 1), same(1, 0, 0), same(1, 0, 4)),
                         [[0, 7, 1], [0, 10, 1], [0, 10, 1]])
        self.assertEqual(self.answered(same(2, 0, 3), same(2, 0, 1), same(2, 2, 3)),
                         [[0, 12, 1], [0, 14, 1], [0, 8, 1]])

    def test_same_buys_nothing_if_more_is_there(self):
        self.assertEqual(self.answered(same(1, 4, 1), same(2, 4, 1)), [[0, 2, 1], [0, 5, 1]])

    def test_same_tells_days_ahead_of_what_is_there_ahead_of_the_mark(self):
        # With one day, two there, filled to 3: one bought, one kept on average.
        self.assertEqual(self.answered(same(1, 2, 3), same(1, 3, 2), same(2, 1, 3)), [[0, 3, 1], [0, 1, 1], [0, 10, 1]])

    def test_more(self):
        self.assertEqual(self.answered(*[more(1, x) for x in range(5)]),
                         [[0, -2, 1], [0, -2, 1], [0, -2, 1], [0, 1, 1], [0, 1, 1]])
        self.assertEqual(self.answered(*[more(2, x) for x in range(4)]),
                         [[0, -2, 1], [0, -2, 1], [0, -2, 1], [0, -1, 1]])

    def test_more_may_be_a_fraction_below_0(self):
        shelf = told((2, 0, 3), 10, [(1, 1), (3, 1)])
        # With 1, 2, 3, 4 there 3, 1 1/2, 0, 0 are to be looked for.
        self.assertEqual(ask(*shelf, more(1, 1), more(1, 2), more(1, 3))[-3:], [[0, -3, 2], [0, -3, 2], [0, 0, 1]])

    def test_saves(self):
        self.assertEqual(self.answered(saves(1, 0), saves(2, 0), saves(2, 3)), [[0, 3, 1], [0, 8, 1], [0, 3, 2]])
        self.assertEqual(self.answered(saves(1, 3), saves(1, 10)), [[0, 0, 1], [0, 0, 1]])

    def test_dear(self):
        self.assertEqual(self.answered(*[dear(1, m) for m in (2, 3, 5, 6)]), [[0, 1], [1, 1], [1, 1], [3, 1]])
        self.assertEqual(self.answered(dear(2, 2), dear(2, 1000)), [[0, 3], [3, 3]])

    def test_keeping(self):
        self.assertEqual(self.answered(*[keeping(1, k) for k in (0, 1, 2)]), [[3, 1], [1, 1], [1, 1]])
        self.assertEqual(self.answered(keeping(2, 1), keeping(2, 1000)), [[3, 3], [1, 3]])

    def test_the_prices_stay_as_they_are(self):
        given = self.answered(dear(1, 6), keeping(1, 0), mark(1), value(1, 0), prices(0, 0, 0))
        self.assertEqual(given[2:], [[1], [0, 7, 1], [0, 2, 1, 5]])

    def test_mean(self):
        self.assertEqual(self.answered(mean(), chance(0, 4), mean(), chance(20, 2), mean()),
                         [[0, 2, 1], [6], [0, 2, 3], [8], [0, 11, 2]])

    def test_day(self):
        self.assertEqual(self.answered(*[day(y) for y in range(5)]),
                         [[0, 10, 1], [0, 5, 1], [0, 3, 1], [0, 1, 1], [0, 2, 1]])
        self.assertEqual(last(*told((2, 1, 5), 10, [(1, 2), (3, 4)]), day(2)), [0, 11, 3])

    def test_day_leaves_out_what_is_bought(self):
        for bought in (0, 1, 5):
            self.assertEqual(ask(*PLAIN, prices(bought, 1, 5), day(4))[-1], [0, 2, 1], bought)


class Edges(unittest.TestCase):
    def test_missing_as_dear_as_buying(self):
        shelf = ((3, 0, 3), 5, [(2, 1)])
        self.assertEqual(asked_of(shelf, same(2, 0, 2), same(2, 0, 5), more(2, 0), more(2, 4), saves(2, 0)),
                         [[0, 12, 1], [0, 21, 1], [0, -3, 1], [0, 0, 1], [0, 0, 1]])
        self.assertEqual(asked_of(shelf, dear(1, 3), dear(1, 4), keeping(1, 1000)), [[0, 0], [2, 0], [0, 0]])
        self.assertEqual(asked_of(shelf, day(0), day(2), day(5)), [[0, 6, 1], [0, 0, 1], [0, 0, 1]])

    def test_buying_for_nothing(self):
        shelf = ((0, 1, 4), 5, [(0, 1), (2, 1)])
        self.assertEqual(asked_of(shelf, same(1, 0, 3), more(3, 0), more(1, 2), saves(1, 0), day(2)),
                         [[0, 2, 1], [0, 0, 1], [0, 1, 1], [0, 3, 1], [0, 1, 1]])
        self.assertEqual(asked_of(shelf, dear(1, 0), dear(1, 1), dear(1, 2), keeping(1, 3), keeping(1, 4)),
                         [[0, 2], [0, 2], [2, 2], [2, 2], [0, 2]])

    def test_keeping_for_nothing(self):
        shelf = ((2, 0, 3), 10, [(1, 1), (3, 1)])
        self.assertEqual(asked_of(shelf, same(1, 0, 3), saves(1, 0), day(3), day(10), day(2)),
                         [[0, 6, 1], [0, 1, 1], [0, 0, 1], [0, 0, 1], [0, 3, 2]])
        self.assertEqual(asked_of(shelf, keeping(1, 0), keeping(2, 0), keeping(2, 1000), dear(1, 5), dear(1, 4)),
                         [[1, 1], [3, 3], [1, 3], [3, 1], [1, 1]])

    def test_all_for_nothing(self):
        shelf = ((0, 0, 0), 3, [(1, 1), (9, 2)])
        self.assertEqual(asked_of(shelf, same(5, 0, 3), more(5, 2), saves(5, 0), day(0)), [[0, 0, 1]] * 4)
        self.assertEqual(asked_of(shelf, dear(5, 1), keeping(5, 1000)), [[3, 0], [0, 0]])

    def test_nothing_wanted_ever(self):
        shelf = ((2, 3, 4), 6, [(0, 5)])
        self.assertEqual(asked_of(shelf, mean(), day(0), day(6), same(2, 1, 2), more(5, 0), saves(5, 6)),
                         [[0, 0, 1], [0, 0, 1], [0, 18, 1], [0, 14, 1], [0, 15, 1], [0, 0, 1]])
        self.assertEqual(asked_of(shelf, dear(5, 1000), keeping(5, 0)), [[0, 0], [0, 0]])

    def test_more_wanted_than_there_is_room_for(self):
        shelf = ((1, 1, 10), 2, [(5, 1)])
        self.assertEqual(asked_of(shelf, same(2, 0, 1), more(1, 0), more(1, 1), saves(1, 0), saves(2, 1)),
                         [[0, 82, 1], [0, -1, 1], [0, -1, 1], [0, 18, 1], [0, 27, 1]])
        self.assertEqual(asked_of(shelf, day(2), mean()), [[0, 30, 1], [0, 5, 1]])
        self.assertEqual(asked_of(shelf, dear(1, 1), dear(1, 2), keeping(3, 1000)), [[0, 2], [2, 2], [2, 2]])

    def test_one_row(self):
        shelf = ((2, 1, 5), 10, [(3, 7)])
        self.assertEqual(asked_of(shelf, mean(), day(3), same(5, 0, 3), saves(5, 0)),
                         [[0, 3, 1], [0, 0, 1], [0, 30, 1], [0, 45, 1]])
        # The fourth piece lies one night and spares 2, the tenth three nights.
        self.assertEqual(asked_of(shelf, more(5, 0), more(5, 3), more(1, 3), more(5, 9)),
                         [[0, -2, 1], [0, -1, 1], [0, 1, 1], [0, 1, 1]])

    def test_the_last_day(self):
        shelf = ((4, 1, 5), 10, [(0, 1), (2, 1)])
        self.assertEqual(asked_of(shelf, same(1, 0, 2), saves(1, 0), more(1, 2)), [[0, 9, 1], [0, 0, 1], [0, 1, 1]])
        self.assertEqual(asked_of(shelf, dear(1, 9), dear(1, 10), keeping(1, 0)), [[0, 0], [2, 0], [0, 0]])

    def test_a_mark_as_high_as_the_room(self):
        for room in (1, 20):
            shelf = ((1, 0, 1000), room, [(20, 1)])
            missed = 1000 * (20 - room)
            self.assertEqual(asked_of(shelf, same(1, 0, room), saves(1, 0), more(1, room - 1), day(room)),
                             [[0, room + missed, 1], [0, 999 * room, 1], [0, -1, 1], [0, missed, 1]])
            self.assertEqual(asked_of(shelf, dear(1, 1), dear(1, 1000), keeping(1, 1000)),
                             [[0, room], [room, room], [room, room]])

    def test_more_there_than_the_mark(self):
        shelf = ((2, 1, 5), 10, [(1, 1)])
        self.assertEqual(asked_of(shelf, same(3, 3, 1), same(3, 3, 0), saves(3, 3), more(3, 3), day(3)),
                         [[0, 3, 1], [0, 3, 1], [0, 0, 1], [0, 3, 1], [0, 2, 1]])

    def test_the_same_number_in_two_rows(self):
        asked = [same(4, 1, 2), more(3, 2), dear(3, 9), keeping(3, 0), mean(), day(2), saves(5, 1)]
        two = asked_of(((2, 1, 5), 8, [(3, 1), (0, 4), (3, 2)]), *asked)
        self.assertEqual(two, asked_of(((2, 1, 5), 8, [(3, 3), (0, 4)]), *asked))
        self.assertEqual(two[4], [0, 9, 7])


class Refused(unittest.TestCase):
    def each(self, expected, shelf, *calls):
        for call in calls:
            self.assertEqual(last(*shelf, call), expected, call)

    def met(self, *calls):
        for call in calls:
            self.assertGreaterEqual(last(*PLAIN, call)[0], 0, call)

    def test_days_are_1_to_5(self):
        for n in (0, 6, HUGE):
            self.each(RANGE, PLAIN, same(n, 0, 0), more(n, 0), dear(n, 5), keeping(n, 1), saves(n, 0))
        for n in (1, 5):
            self.met(same(n, 0, 0), more(n, 0), dear(n, 5), keeping(n, 1), saves(n, 0))

    def test_what_is_there_is_at_most_the_room(self):
        for x in (11, HUGE):
            self.each(RANGE, PLAIN, same(1, x, 0), more(1, x), saves(1, x))
        self.met(same(5, 10, 0), saves(5, 10))

    def test_one_more_is_at_most_the_room(self):
        self.each(RANGE, PLAIN, more(1, 10), more(5, 10))
        self.met(more(1, 9), more(5, 9))
        self.assertEqual(asked_of(((1, 1, 1), 1, [(1, 1)]), more(1, 0), more(1, 1)), [[0, -1, 1], RANGE])

    def test_a_mark_is_at_most_the_room(self):
        self.each(RANGE, PLAIN, same(1, 0, 11), same(5, 10, 11), same(1, 0, HUGE))
        self.met(same(1, 0, 10), same(5, 10, 10))

    def test_a_day_is_filled_to_the_room_at_most(self):
        self.each(RANGE, PLAIN, day(11), day(HUGE))
        self.met(day(0), day(10))

    def test_missed_is_no_less_than_bought_and_at_most_1000(self):
        self.each(RANGE, PLAIN, dear(1, 0), dear(1, 1), dear(1, 1001), dear(1, HUGE))
        self.met(dear(1, 2), dear(5, 1000))
        free = told((0, 1, 1), 5, [(1, 1)])
        self.assertEqual(last(*free, dear(1, 0)), [0, 1])

    def test_missed_goes_by_the_prices_of_now(self):
        self.assertEqual(ask(*PLAIN, prices(5, 1, 9), dear(1, 4), dear(1, 5))[-2:], [RANGE, [0, 1]])

    def test_kept_is_at_most_1000(self):
        self.each(RANGE, PLAIN, keeping(1, 1001), keeping(1, HUGE))
        self.met(keeping(1, 0), keeping(5, 1000))

    def test_none_without_chances(self):
        self.each(NONE, EMPTY, same(1, 10, 10), same(5, 0, 0), more(1, 9), dear(5, 2), dear(1, 1000), keeping(1, 0),
                  keeping(5, 1000), mean(), day(0), day(10), saves(5, 10))

    def test_out_of_range_is_told_ahead_of_none(self):
        self.each(RANGE, EMPTY, same(0, 0, 0), same(6, 0, 0), same(1, 11, 0), same(1, 0, 11), more(0, 0), more(6, 0),
                  more(1, 10), dear(0, 5), dear(6, 5), dear(1, 1), dear(1, 1001), keeping(0, 1), keeping(6, 1),
                  keeping(1, 1001), day(11), saves(0, 0), saves(6, 0), saves(1, 11))


if __name__ == "__main__":
    unittest.main()
