"""What holds of all shelves, and what holds of the list that is handed in and given back."""

import unittest

from shelfmarks.store import answers
from tests.helper import (
    HUGE, NONE, NOT_BEGUN, RANGE, TOO_MANY, Reckoning,
    ask, begin, bymarks, chance, every_question, fill, last, mark, marks, never, pair, prices, some_shelves, told,
    up, value,
)


def asked_of(shelf, *calls):
    """The answers of the calls alone, made on a shelf (costs, room, rows)."""
    return ask(*told(*shelf), *calls)[1 + len(shelf[2]):]


class AsTheDocumentReckons(unittest.TestCase):
    def test_best_fills(self):
        for shelf in some_shelves(60, seed=1):
            slow = Reckoning(*shelf)
            for n in range(1, 6):
                for x in range(0, shelf[1] + 1, 1 + shelf[1] // 4):
                    given = asked_of(shelf, up(n, x), value(n, x), fill(n, x))
                    expected = [[slow.up(n, x)], [0] + pair(slow.value(n, x)), [0] + pair(slow.fill(n, x))]
                    self.assertEqual(given, expected, (shelf, n, x))

    def test_marks(self):
        for shelf in some_shelves(60, seed=2):
            slow = Reckoning(*shelf)
            expected = [slow.up(n, 0) for n in range(1, 6)]
            self.assertEqual(asked_of(shelf, marks()), [[5] + expected], shelf)
            self.assertEqual(asked_of(shelf, *[mark(n) for n in range(1, 6)]), [[best] for best in expected], shelf)

    def test_bymarks(self):
        for turn, shelf in enumerate(some_shelves(60, seed=3)):
            slow = Reckoning(*shelf)
            room = shelf[1]
            for n in range(1, 5):
                day_marks = [(turn * 7 + day * 5) % (room + 1) for day in range(n)]
                x = (turn * 3 + n) % (room + 1)
                marked = slow.by_marks(x, day_marks)
                expected = [0] + pair(marked) + pair(marked - slow.value(n, x))
                self.assertEqual(asked_of(shelf, bymarks(x, *day_marks)), [expected], (shelf, x, day_marks))


class Holds(unittest.TestCase):
    shelves = some_shelves(80, seed=4) + [
        ((0, 0, 0), 20, [(20, 1)]),
        ((7, 0, 7), 20, [(0, 1), (19, 100)]),
        ((0, 3, 9), 20, [(1, 1), (1, 1), (2, 5)]),
        ((1000, 1000, 1000), 20, [(20, 100), (0, 100), (13, 99), (7, 1), (5, 50), (20, 3)]),
        ((999, 0, 1000), 20, [(2, 97), (3, 89), (4, 83)]),
        ((1, 1000, 1000), 1, [(0, 1), (1, 1)]),
    ]

    def test_by_the_marks_just_as_much_is_to_be_looked_for(self):
        for shelf in self.shelves:
            best = asked_of(shelf, marks())[0][1:]
            for n in range(1, 6):
                for x in range(shelf[1] + 1):
                    least, marked = asked_of(shelf, value(n, x), bymarks(x, *best[:n]))
                    self.assertEqual(marked, least + [0, 1], (shelf, n, x))

    def test_it_is_best_filled_up_to_the_mark_or_not_at_all(self):
        for shelf in self.shelves:
            best = asked_of(shelf, marks())[0]
            for n in range(1, 6):
                ups = asked_of(shelf, *[up(n, x) for x in range(shelf[1] + 1)])
                self.assertEqual(ups, [[max(best[n], x)] for x in range(shelf[1] + 1)], (shelf, n))

    def test_by_other_marks_no_less_is_to_be_looked_for(self):
        for shelf in self.shelves:
            for told_mark in range(shelf[1] + 1):
                answered = asked_of(shelf, bymarks(0, told_mark, shelf[1] - told_mark))[0]
                self.assertGreaterEqual(answered[3], 0, (shelf, told_mark))

    def test_with_more_days_to_come_no_mark_is_lower(self):
        for shelf in self.shelves:
            best = asked_of(shelf, marks())[0][1:]
            self.assertEqual(best, sorted(best), shelf)

    def test_only_the_share_of_each_row_matters(self):
        for costs, room, rows in self.shelves:
            once = [(wanted, 1 + often % 33) for wanted, often in rows]
            thrice = [(wanted, 3 * often) for wanted, often in once]
            asked = every_question(room)
            self.assertEqual(asked_of((costs, room, once), *asked), asked_of((costs, room, thrice), *asked))

    def test_the_order_of_the_rows_does_not_matter(self):
        for costs, room, rows in self.shelves:
            asked = every_question(room)
            self.assertEqual(asked_of((costs, room, rows), *asked), asked_of((costs, room, rows[::-1]), *asked))


class RefusedChangesNothing(unittest.TestCase):
    rows = [(1, 1), (3, 2), (3, 1), (0, 5), (7, 1), (9, 2)]
    shelf = ((2, 1, 5), 10, rows)
    refused = [
        (begin(6, 1, 5, 9), RANGE), (begin(1, 1, 1, 0), RANGE), (begin(1, 1, 1, 21), RANGE),
        (begin(0, HUGE, 0, 1), RANGE), (chance(21, 3), RANGE), (chance(2, 0), RANGE), (chance(2, 101), RANGE),
        (chance(2, 3), TOO_MANY), (chance(3, 3), TOO_MANY), (never(2), NONE), (never(HUGE), NONE),
        (prices(6, 1, 5), RANGE), (prices(3, 1001, 5), RANGE), (prices(3, 1, 1001), RANGE),
        (mark(0), RANGE), (up(1, 11), RANGE), (value(6, 0), RANGE), (fill(1, HUGE), RANGE),
        (bymarks(0), RANGE), (bymarks(0, *[3] * 8), RANGE), (bymarks(0, 4, 11), RANGE),
    ]

    def test_each_refusal(self):
        asked = every_question(10)
        before = asked_of(self.shelf, *asked)
        for call, refusal in self.refused:
            given = asked_of(self.shelf, call, *asked, prices(1, 1, 1), *[never(d) for d in (3, 0, 1, 7, 9)])
            self.assertEqual(given, [refusal] + before + [[0, 2, 1, 5], [9], [4], [3], [2], [0]], call)

    def test_none_on_a_shelf_without_chances(self):
        calls = [mark(1), marks(), up(1, 1), value(1, 1), fill(1, 1), bymarks(1, 1)]
        given = ask(begin(2, 1, 5, 10), *calls, prices(2, 1, 5), chance(1, 1), chance(3, 1), *every_question(10))
        self.assertEqual(given[1:8], [NONE] * 6 + [[0, 2, 1, 5]])
        self.assertEqual(given[10:], asked_of(((2, 1, 5), 10, [(1, 1), (3, 1)]), *every_question(10)))

    def test_questions_change_nothing(self):
        asked = every_question(10)
        self.assertEqual(asked_of(self.shelf, *asked, *asked), asked_of(self.shelf, *asked) * 2)


class Untouched(list):
    """A list that can be read alone."""

    def refuse(self, *told):
        raise AssertionError("the list that was handed in is changed")

    append = extend = insert = pop = remove = clear = sort = reverse = refuse
    __setitem__ = __delitem__ = __iadd__ = __imul__ = refuse


class TheList(unittest.TestCase):
    calls = [0, 2, 1, 5, 10, 1, 1, 1, 1, 3, 1, 5, 6, 2, 4, 7, 2, 0, 8, 1, 0, 9, 0, 2, 3, 1, 9, 0, 0, 4, 0, 3, 0, 0, 1]
    given = [1, 0, 1, 1, 1, 2, 6, 5, 1, 3, 3, 3, 3, 1, 4, 3, 0, 12, 1, 3, 0, 10, 1, 5, 0, 14, 1, 2, 1,
             1, -22, 1, -22, 4, 0, 2, 1, 5]

    def test_how_many_numbers_then_these(self):
        self.assertEqual(answers(self.calls), self.given)

    def test_what_is_handed_in_is_not_changed(self):
        handed = list(self.calls)
        answers(handed)
        self.assertEqual(handed, self.calls)
        self.assertEqual(answers(Untouched(self.calls)), self.given)

    def test_whole_numbers_in_a_list(self):
        given = answers(self.calls)
        self.assertIs(type(given), list)
        self.assertEqual({type(number) for number in given}, {int})

    def test_nothing_is_kept_from_one_time_to_the_next(self):
        self.assertEqual(answers(self.calls), answers(self.calls))
        self.assertEqual(ask(mark(1), chance(1, 1)), [NOT_BEGUN, NOT_BEGUN])
        answers([0, 1, 1, 1, 1, 1, 2, 3])
        self.assertEqual(ask(begin(1, 1, 1, 1), mark(1)), [[0], NONE])

    def test_400_calls(self):
        shelf = told((3, 1, 40), 20, [(d * 3, 100 - d) for d in range(6)])
        many = 400 - len(shelf)
        row = bymarks(20, *[20] * 5)
        self.assertEqual(ask(*shelf, *[row] * many)[len(shelf):], [last(*shelf, row)] * many)


if __name__ == "__main__":
    unittest.main()
