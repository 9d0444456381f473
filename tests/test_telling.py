"""begin, chance, never, prices: what is told, and what is refused of it; chances, state: what it is now."""

import unittest

from tests.helper import (
    HUGE, NONE, NOT_BEGUN, RANGE, TOO_MANY,
    ask, begin, bymarks, chance, chances, day, dear, every_question, fill, keeping, last, mark, marks, mean, more,
    never, play, prices, same, saves, state, told, up, value,
)


class Begin(unittest.TestCase):
    def test_answers_0(self):
        self.assertEqual(ask(begin(2, 1, 5, 10)), [[0]])

    def test_costs_may_be_0_and_1000(self):
        for costs in [(0, 0, 0), (1000, 1000, 1000), (0, 1000, 0), (0, 0, 1000), (1000, 0, 1000)]:
            self.assertEqual(last(begin(*costs, 5)), [0], costs)

    def test_no_cost_is_above_1000(self):
        for costs in [(1001, 0, 1001), (1001, 0, 1000), (0, 1001, 0), (0, 0, 1001)]:
            self.assertEqual(last(begin(*costs, 5)), RANGE, costs)

    def test_missed_is_no_less_than_bought(self):
        self.assertEqual(last(begin(5, 0, 5, 5)), [0])
        self.assertEqual(last(begin(5, 0, 4, 5)), RANGE)
        self.assertEqual(last(begin(1000, 0, 999, 5)), RANGE)

    def test_kept_may_be_above_the_others(self):
        self.assertEqual(last(begin(1, 9, 2, 5)), [0])

    def test_room_is_1_to_20(self):
        answered = {room: last(begin(1, 1, 1, room)) for room in (0, 1, 20, 21)}
        self.assertEqual(answered, {0: RANGE, 1: [0], 20: [0], 21: RANGE})

    def test_huge_in_each_place(self):
        for place in range(4):
            numbers = [1, 1, 1, 1]
            numbers[place] = HUGE
            self.assertEqual(last(begin(*numbers)), RANGE, place)

    def test_bounds_of_room_are_those_of_what_is_there(self):
        for room in (1, 20):
            shelf = told((1, 1, 2), room, [(3, 1)])
            self.assertEqual(last(*shelf, value(1, room))[0], 0)
            self.assertEqual(last(*shelf, value(1, room + 1)), RANGE)

    def test_another_begin_leaves_no_chances_and_new_numbers(self):
        shelf = told((1, 1, 2), 5, [(3, 1)]) + [begin(2, 3, 4, 7)]
        self.assertEqual(last(*shelf, marks()), NONE)
        self.assertEqual(last(*shelf, never(3)), NONE)
        self.assertEqual(last(*shelf, chance(3, 4)), [4])
        self.assertEqual(last(*shelf, prices(1, 1, 1)), [0, 2, 3, 4])
        self.assertEqual(last(*shelf, up(1, 7)), NONE)
        self.assertEqual(last(*shelf, up(1, 8)), RANGE)


class NotBegun(unittest.TestCase):
    others = [
        chance(3, 1), never(3), prices(1, 1, 1), mark(1), marks(), up(1, 0), value(1, 0), fill(1, 0), bymarks(0, 1),
        same(1, 0, 0), play(0, 1), more(1, 0), dear(1, 1), keeping(1, 1), mean(), day(0), saves(1, 0),
        chances(), state(),
    ]
    wrong = [
        chance(21, 0), prices(2, 1, 1), mark(0), up(6, 0), value(1, 21), fill(0, HUGE), bymarks(0), bymarks(HUGE, 1),
        same(0, HUGE, HUGE), play(0), play(0, *[HUGE] * 8), more(0, HUGE), dear(0, HUGE), keeping(0, HUGE), day(HUGE),
        saves(0, HUGE),
    ]

    def test_all_others_answer_not_begun(self):
        self.assertEqual(ask(*self.others), [NOT_BEGUN] * len(self.others))

    def test_not_begun_is_told_ahead_of_all_else(self):
        self.assertEqual(ask(*self.wrong), [NOT_BEGUN] * len(self.wrong))

    def test_a_refused_begin_does_not_begin(self):
        for refused in (begin(2, 1, 1, 5), begin(1, 1, 1, 0), begin(1, 1, 1, 21)):
            self.assertEqual(ask(refused, *self.others), [RANGE] + [NOT_BEGUN] * len(self.others))

    def test_what_was_told_ahead_of_begin_is_not_kept(self):
        self.assertEqual(ask(chance(3, 1), begin(1, 1, 1, 5), mark(1), chance(2, 7)), [NOT_BEGUN, [0], NONE, [7]])

    def test_a_refused_begin_leaves_a_begun_shelf_begun(self):
        shelf = told((2, 1, 5), 10, [(1, 1), (3, 1)])
        for refused in (begin(2, 1, 1, 5), begin(0, 1001, 0, 5), begin(0, 0, 0, 0), begin(0, 0, 0, 21)):
            self.assertEqual(ask(*shelf, refused, marks())[-2:], [RANGE, [5, 1, 3, 3, 3, 3]])


class Chance(unittest.TestCase):
    start = begin(2, 1, 5, 10)

    def test_answers_how_often_all_rows_come(self):
        self.assertEqual(ask(self.start, chance(1, 1), chance(3, 2), chance(0, 100)), [[0], [1], [3], [103]])

    def test_wanted_is_at_most_20(self):
        answered = {wanted: last(self.start, chance(wanted, 1)) for wanted in (0, 20, 21, HUGE)}
        self.assertEqual(answered, {0: [1], 20: [1], 21: RANGE, HUGE: RANGE})

    def test_how_often_is_1_to_100(self):
        answered = {often: last(self.start, chance(1, often)) for often in (0, 1, 100, 101, HUGE)}
        self.assertEqual(answered, {0: RANGE, 1: [1], 100: [100], 101: RANGE, HUGE: RANGE})

    def test_wanted_may_be_above_the_room(self):
        self.assertEqual(last(begin(1, 1, 1, 1), chance(20, 1)), [1])

    def test_a_seventh_row_is_too_many(self):
        six = [chance(d, 100) for d in range(6)]
        self.assertEqual(ask(self.start, *six, chance(6, 1))[-2:], [[600], TOO_MANY])

    def test_a_seventh_row_of_a_number_that_is_there_is_too_many(self):
        self.assertEqual(ask(self.start, *[chance(4, 1)] * 7)[1:], [[1], [2], [3], [4], [5], [6], TOO_MANY])

    def test_out_of_range_is_told_ahead_of_too_many(self):
        six = [self.start] + [chance(d, 1) for d in range(6)]
        for wrong in (chance(21, 1), chance(1, 0), chance(1, 101)):
            self.assertEqual(last(*six, wrong), RANGE)

    def test_there_is_place_again_when_rows_are_gone(self):
        six = [self.start] + [chance(d, 1) for d in range(6)]
        self.assertEqual(ask(*six, never(0), chance(9, 2), chance(9, 2))[-3:], [[5], [7], TOO_MANY])


class Never(unittest.TestCase):
    start = [begin(2, 1, 5, 10), chance(3, 1), chance(1, 10), chance(3, 20)]

    def test_all_rows_that_have_it_are_gone(self):
        self.assertEqual(ask(*self.start, never(3), never(3), never(1))[-3:], [[10], NONE, [0]])

    def test_the_others_stay(self):
        left = ask(*self.start, never(3), *every_question(10))[-len(every_question(10)):]
        self.assertEqual(left, ask(begin(2, 1, 5, 10), chance(1, 10), *every_question(10))[2:])

    def test_none_has_it(self):
        for wanted in (0, 2, 10, 20, 21, HUGE):
            self.assertEqual(ask(*self.start, never(wanted), chance(0, 1))[-2:], [NONE, [32]], wanted)

    def test_there_are_no_rows(self):
        self.assertEqual(last(begin(2, 1, 5, 10), never(0)), NONE)

    def test_without_rows_it_is_as_if_none_was_told(self):
        gone = [begin(2, 1, 5, 10), chance(0, 1), never(0)]
        self.assertEqual(ask(*gone, mark(1), marks(), chance(2, 3))[-4:], [[0], NONE, NONE, [3]])


class Prices(unittest.TestCase):
    start = told((2, 1, 5), 10, [(1, 1), (3, 1)])

    def test_answers_what_they_were(self):
        self.assertEqual(ask(*self.start, prices(7, 8, 9), prices(0, 0, 0), prices(1, 2, 3))[-3:],
                         [[0, 2, 1, 5], [0, 7, 8, 9], [0, 0, 0, 0]])

    def test_from_then_on_they_are_so(self):
        asked = every_question(10)
        changed = ask(*self.start, prices(3, 0, 11), *asked)[-len(asked):]
        self.assertEqual(changed, ask(*told((3, 0, 11), 10, [(1, 1), (3, 1)]), *asked)[-len(asked):])

    def test_bounds(self):
        for costs in [(0, 0, 0), (1000, 1000, 1000), (0, 1000, 0), (4, 0, 4)]:
            self.assertEqual(last(*self.start, prices(*costs)), [0, 2, 1, 5], costs)
        for costs in [(1001, 0, 1001), (1001, 0, 1000), (0, 1001, 0), (0, 0, 1001), (5, 0, 4),
                      (HUGE, 0, HUGE), (HUGE, 0, 0), (0, HUGE, 0), (0, 0, HUGE)]:
            self.assertEqual(ask(*self.start, prices(*costs), prices(0, 0, 0))[-2:], [RANGE, [0, 2, 1, 5]], costs)

    def test_no_chances_are_needed(self):
        self.assertEqual(last(begin(2, 1, 5, 10), prices(1, 1, 1)), [0, 2, 1, 5])


class ChancesAndState(unittest.TestCase):
    start = told((2, 1, 5), 10, [(3, 1), (1, 10), (3, 20)])

    def both(self, *calls):
        return ask(*self.start, *calls, chances(), state())[-2:]

    def test_rows_as_they_were_told(self):
        self.assertEqual(self.both(), [[3, 3, 1, 1, 10, 3, 20], [31, 2, 1, 5, 10]])

    def test_no_chances_are_needed(self):
        self.assertEqual(ask(begin(0, 1000, 7, 20), chances(), state()), [[0], [0], [0, 0, 1000, 7, 20]])

    def test_six_rows(self):
        six = told((0, 0, 0), 1, [(20, 100)] * 6)
        self.assertEqual(ask(*six, chances(), state())[-2:], [[6] + [20, 100] * 6, [600, 0, 0, 0, 1]])

    def test_after_never(self):
        self.assertEqual(self.both(never(3)), [[1, 1, 10], [10, 2, 1, 5, 10]])
        self.assertEqual(self.both(never(1)), [[2, 3, 1, 3, 20], [21, 2, 1, 5, 10]])
        self.assertEqual(self.both(never(1), never(3)), [[0], [0, 2, 1, 5, 10]])
        self.assertEqual(self.both(never(3), chance(3, 4)), [[2, 1, 10, 3, 4], [14, 2, 1, 5, 10]])

    def test_after_prices(self):
        self.assertEqual(self.both(prices(7, 8, 9)), [[3, 3, 1, 1, 10, 3, 20], [31, 7, 8, 9, 10]])

    def test_after_a_second_begin(self):
        self.assertEqual(self.both(begin(4, 3, 6, 8)), [[0], [0, 4, 3, 6, 8]])
        self.assertEqual(self.both(begin(4, 3, 6, 8), chance(2, 2)), [[1, 2, 2], [2, 4, 3, 6, 8]])

    def test_after_what_is_refused(self):
        for refused in (never(2), prices(6, 1, 5), prices(0, 1001, 0), begin(6, 1, 5, 3), begin(1, 1, 1, 21),
                        chance(21, 1), chance(1, 0)):
            self.assertEqual(self.both(refused), self.both(), refused)


if __name__ == "__main__":
    unittest.main()
