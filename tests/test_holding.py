"""What holds of all shelves, and what holds of the list that is handed in and given back."""

import unittest
from fractions import Fraction

from shelfmarks.store import answers
from tests.helper import (
    HUGE, NONE, NOT_BEGUN, RANGE, TOO_MANY, Reckoning,
    ask, asked_of, begin, bymarks, chance, chances, day, dear, every_question, fill, keeping, last, mark, marks, mean,
    more, never, pair, play, prices, questions, same, saves, some_shelves, state, told, up, value,
)


class AsTheDocumentReckons(unittest.TestCase):
    def test_best_fills(self):
        for shelf in some_shelves(60, seed=1):
            slow = Reckoning(*shelf)
            for n in range(1, 6):
                for x in range(0, shelf[1] + 1, 1 + shelf[1] // 4):
                    given = asked_of(shelf, up(n, x), value(n, x), fill(n, x))
                    expected = [[slow.up(n, x)], [0] + pair(slow.value(n, x)), [0] + pair(slow.fill(n, x))]
                    self.assertEqual(given, expected, (shelf, n, x))

    def test_marks(self):
        for shelf in some_shelves(60, seed=2):
            slow = Reckoning(*shelf)
            expected = [slow.up(n, 0) for n in range(1, 6)]
            self.assertEqual(asked_of(shelf, marks()), [[5] + expected], shelf)
            self.assertEqual(asked_of(shelf, *[mark(n) for n in range(1, 6)]), [[best] for best in expected], shelf)

    def test_bymarks(self):
        for turn, shelf in enumerate(some_shelves(60, seed=3)):
            slow = Reckoning(*shelf)
            room = shelf[1]
            for n in range(1, 5):
                day_marks = [(turn * 7 + day * 5) % (room + 1) for day in range(n)]
                x = (turn * 3 + n) % (room + 1)
                marked = slow.by_marks(x, day_marks)
                expected = [0] + pair(marked) + pair(marked - slow.value(n, x))
                self.assertEqual(asked_of(shelf, bymarks(x, *day_marks)), [expected], (shelf, x, day_marks))

    def test_same_saves_and_more(self):
        for turn, shelf in enumerate(some_shelves(60, seed=5)):
            slow = Reckoning(*shelf)
            room = shelf[1]
            for n in range(1, 5):
                x = (turn * 3 + n) % room
                s = (turn + n * 5) % (room + 1)
                given = asked_of(shelf, same(n, x, s), saves(n, x), more(n, x))
                expected = [slow.by_marks(x, [s] * n), slow.by_marks(x, [0] * n) - slow.value(n, x),
                            slow.value(n, x + 1) - slow.value(n, x)]
                self.assertEqual(given, [[0] + pair(fraction) for fraction in expected], (shelf, n, x, s))

    def test_play(self):
        for turn, shelf in enumerate(some_shelves(60, seed=6)):
            slow = Reckoning(*shelf)
            for n in range(1, 6):
                wanted = [(turn * 7 + passed * 5) % (shelf[1] + 3) for passed in range(n)]
                x = (turn * 3 + n) % (shelf[1] + 1)
                self.assertEqual(asked_of(shelf, play(x, *wanted)), [slow.play(x, wanted)], (shelf, x, wanted))

    def test_dear_and_keeping(self):
        for shelf in some_shelves(60, seed=7):
            (bought, kept, missed), room, rows = shelf
            now = Reckoning(*shelf)
            for n in range(1, 6):
                for m in (bought, (bought + missed + 1) // 2, 1000):
                    then = Reckoning((bought, kept, m), room, rows)
                    self.assertEqual(asked_of(shelf, dear(n, m)), [[then.up(n, 0), now.up(n, 0)]], (shelf, n, m))
                for k in (0, kept // 2, kept + 1 if kept < 1000 else 999):
                    then = Reckoning((bought, k, missed), room, rows)
                    self.assertEqual(asked_of(shelf, keeping(n, k)), [[then.up(n, 0), now.up(n, 0)]], (shelf, n, k))

    def test_mean_and_day(self):
        for shelf in some_shelves(60, seed=8):
            slow = Reckoning(*shelf)
            self.assertEqual(asked_of(shelf, mean()), [[0] + pair(slow.mean())], shelf)
            for y in range(shelf[1] + 1):
                self.assertEqual(asked_of(shelf, day(y)), [[0] + pair(slow.day(y, y, lambda left: 0))], (shelf, y))

    def test_chances_and_state(self):
        for shelf in some_shelves(30, seed=9):
            costs, room, rows = shelf
            together = sum(often for wanted, often in rows)
            expected = [[len(rows)] + [number for row in rows for number in row], [together, *costs, room]]
            self.assertEqual(asked_of(shelf, chances(), state()), expected)


class Holds(unittest.TestCase):
    shelves = some_shelves(80, seed=4) + [
        ((0, 0, 0), 20, [(20, 1)]),
        ((7, 0, 7), 20, [(0, 1), (19, 100)]),
        ((0, 3, 9), 20, [(1, 1), (1, 1), (2, 5)]),
        ((1000, 1000, 1000), 20, [(20, 100), (0, 100), (13, 99), (7, 1), (5, 50), (20, 3)]),
        ((999, 0, 1000), 20, [(2, 97), (3, 89), (4, 83)]),
        ((1, 1000, 1000), 1, [(0, 1), (1, 1)]),
    ]

    def test_by_no_way_at_all_is_less_to_be_looked_for(self):
        small = [
            ((2, 1, 5), 2, [(1, 1), (3, 1)]), ((1, 0, 1), 2, [(0, 1), (2, 3)]), ((0, 1, 2), 2, [(1, 2), (1, 1)]),
            ((4, 1, 9), 2, [(0, 2), (1, 5)]), ((3, 0, 8), 2, [(2, 1), (0, 1)]), ((1, 1, 3), 1, [(0, 1), (1, 1)]),
        ]
        for shelf in small:
            for n in (1, 2, 3):
                for x in range(shelf[1] + 1):
                    least = pair(min(Reckoning(*shelf).any_way(n, x)))
                    self.assertEqual(asked_of(shelf, value(n, x)), [[0] + least], (shelf, n, x))

    def test_by_the_marks_just_as_much_is_to_be_looked_for(self):
        for shelf in self.shelves:
            best = asked_of(shelf, marks())[0][1:]
            for n in range(1, 6):
                for x in range(shelf[1] + 1):
                    least, marked = asked_of(shelf, value(n, x), bymarks(x, *best[:n]))
                    self.assertEqual(marked, least + [0, 1], (shelf, n, x))

    def test_it_is_best_filled_up_to_the_mark_or_not_at_all(self):
        for shelf in self.shelves:
            best = asked_of(shelf, marks())[0]
            for n in range(1, 6):
                ups = asked_of(shelf, *[up(n, x) for x in range(shelf[1] + 1)])
                self.assertEqual(ups, [[max(best[n], x)] for x in range(shelf[1] + 1)], (shelf, n))

    def test_by_other_marks_no_less_is_to_be_looked_for(self):
        for shelf in self.shelves:
            for told_mark in range(shelf[1] + 1):
                answered = asked_of(shelf, bymarks(0, told_mark, shelf[1] - told_mark))[0]
                self.assertGreaterEqual(answered[3], 0, (shelf, told_mark))

    def test_with_more_days_to_come_no_mark_is_lower(self):
        for shelf in self.shelves:
            best = asked_of(shelf, marks())[0][1:]
            self.assertEqual(best, sorted(best), shelf)

    def test_dearer_to_miss_no_mark_is_lower(self):
        for shelf in self.shelves:
            bought = shelf[0][0]
            for n in (1, 2, 5):
                asked = [dear(n, m) for m in sorted({bought, (bought + 1000) // 2, *range(bought, 1001, 101), 1000})]
                found = [answered[0] for answered in asked_of(shelf, *asked)]
                self.assertEqual(found, sorted(found), (shelf, n))

    def test_dearer_to_keep_no_mark_is_higher(self):
        for shelf in self.shelves:
            for n in (1, 2, 5):
                found = [answered[0] for answered in asked_of(shelf, *[keeping(n, k) for k in range(0, 1001, 100)])]
                self.assertEqual(found, sorted(found, reverse=True), (shelf, n))

    def test_dear_and_keeping_are_the_marks_of_other_prices(self):
        for shelf in self.shelves:
            bought, kept, missed = shelf[0]
            now = asked_of(shelf, marks())[0]
            for n in range(1, 6):
                dearer = asked_of(shelf, dear(n, 1000), prices(bought, kept, 1000), mark(n))
                self.assertEqual(dearer[0], dearer[2] + [now[n]], (shelf, n))
                kept_free = asked_of(shelf, keeping(n, 0), prices(bought, 0, missed), mark(n))
                self.assertEqual(kept_free[0], kept_free[2] + [now[n]], (shelf, n))

    def test_a_piece_more_is_worth_no_more_than_it_costs_nor_than_the_one_before(self):
        for shelf in self.shelves:
            for n in range(1, 6):
                answered = asked_of(shelf, *[more(n, x) for x in range(shelf[1])])
                beyond = [Fraction(above, below) for first, above, below in answered]
                self.assertGreaterEqual(min(beyond), -shelf[0][0], (shelf, n))
                self.assertEqual(beyond, sorted(beyond), (shelf, n))

    def test_nothing_bought_is_no_less_to_be_looked_for(self):
        for shelf in self.shelves:
            for n in range(1, 6):
                for x in range(0, shelf[1] + 1, 1 + shelf[1] // 4):
                    spared, never_bought, least = asked_of(shelf, saves(n, x), same(n, x, 0), value(n, x))
                    self.assertGreaterEqual(spared[1], 0, (shelf, n, x))
                    self.assertEqual(Fraction(*spared[1:]), Fraction(*never_bought[1:]) - Fraction(*least[1:]))

    def test_play_row_by_row_is_what_is_to_be_looked_for(self):
        for shelf in self.shelves:
            rows = shelf[2]
            together = sum(often for wanted, often in rows)
            looked_for = sum(
                Fraction(first[1] * second[1], together ** 2) * asked_of(shelf, play(0, first[0], second[0]))[0][0]
                for first in rows for second in rows
            )
            self.assertEqual(asked_of(shelf, value(2, 0)), [[0] + pair(looked_for)], shelf)

    def test_only_the_share_of_each_row_matters(self):
        for costs, room, rows in self.shelves:
            once = [(wanted, 1 + often % 33) for wanted, often in rows]
            thrice = [(wanted, 3 * often) for wanted, often in once]
            asked = questions(room)
            self.assertEqual(asked_of((costs, room, once), *asked), asked_of((costs, room, thrice), *asked))

    def test_the_order_of_the_rows_does_not_matter(self):
        for costs, room, rows in self.shelves:
            asked = questions(room)
            self.assertEqual(asked_of((costs, room, rows), *asked), asked_of((costs, room, rows[::-1]), *asked))


class RefusedChangesNothing(unittest.TestCase):
    rows = [(1, 1), (3, 2), (3, 1), (0, 5), (7, 1), (9, 2)]
    shelf = ((2, 1, 5), 10, rows)
    refused = [
        (begin(6, 1, 5, 9), RANGE), (begin(1, 1, 1, 0), RANGE), (begin(1, 1, 1, 21), RANGE),
        (begin(0, HUGE, 0, 1), RANGE), (chance(21, 3), RANGE), (chance(2, 0), RANGE), (chance(2, 101), RANGE),
        (chance(2, 3), TOO_MANY), (chance(3, 3), TOO_MANY), (never(2), NONE), (never(HUGE), NONE),
        (prices(6, 1, 5), RANGE), (prices(3, 1001, 5), RANGE), (prices(3, 1, 1001), RANGE),
        (mark(0), RANGE), (up(1, 11), RANGE), (value(6, 0), RANGE), (fill(1, HUGE), RANGE),
        (bymarks(0), RANGE), (bymarks(0, *[3] * 8), RANGE), (bymarks(0, 4, 11), RANGE),
        (same(1, 0, 11), RANGE), (play(0), RANGE), (play(0, *[3] * 8), RANGE), (play(0, 1, 1001), RANGE),
        (more(1, 10), RANGE), (dear(1, 1), RANGE), (dear(6, 7), RANGE), (keeping(1, 1001), RANGE),
        (keeping(0, 7), RANGE), (day(11), RANGE), (saves(1, 11), RANGE),
    ]

    def test_each_refusal(self):
        asked = every_question(10)
        before = asked_of(self.shelf, *asked)
        for call, refusal in self.refused:
            given = asked_of(self.shelf, call, *asked, prices(1, 1, 1), *[never(d) for d in (3, 0, 1, 7, 9)])
            self.assertEqual(given, [refusal] + before + [[0, 2, 1, 5], [9], [4], [3], [2], [0]], call)

    def test_none_on_a_shelf_without_chances(self):
        calls = [
            mark(1), marks(), up(1, 1), value(1, 1), fill(1, 1), bymarks(1, 1), same(1, 1, 1), play(1, 1), more(1, 1),
            dear(1, 9), keeping(1, 9), mean(), day(1), saves(1, 1),
        ]
        given = ask(begin(2, 1, 5, 10), *calls, prices(2, 1, 5), chance(1, 1), chance(3, 1), *every_question(10))
        self.assertEqual(given[1:16], [NONE] * 14 + [[0, 2, 1, 5]])
        self.assertEqual(given[18:], asked_of(((2, 1, 5), 10, [(1, 1), (3, 1)]), *every_question(10)))

    def test_no_question_changes_anything(self):
        for question in every_question(10):
            given = asked_of(self.shelf, question, chances(), state(), marks())
            self.assertEqual(given[1:], asked_of(self.shelf, chances(), state(), marks()), question)

    def test_questions_change_nothing(self):
        asked = every_question(10)
        self.assertEqual(asked_of(self.shelf, *asked, *asked), asked_of(self.shelf, *asked) * 2)


class Untouched(list):
    """A list that can be read alone."""

    def refuse(self, *told):
        raise AssertionError("the list that was handed in is changed")

    append = extend = insert = pop = remove = clear = sort = reverse = refuse
    __setitem__ = __delitem__ = __iadd__ = __imul__ = refuse


class TheList(unittest.TestCase):
    calls = [0, 2, 1, 5, 10, 1, 1, 1, 1, 3, 1, 5, 6, 2, 4, 7, 2, 0, 8, 1, 0, 9, 0, 2, 3, 1, 9, 0, 0, 4, 0,
             10, 2, 0, 1, 11, 0, 2, 1, 3, 11, 0, 0, 12, 2, 3, 13, 1, 6, 14, 1, 0, 15, 16, 2, 17, 2, 3, 18, 19,
             2, 3, 3, 0, 0, 1, 18, 19]
    given = [1, 0, 1, 1, 1, 2, 6, 5, 1, 3, 3, 3, 3, 1, 4, 3, 0, 12, 1, 3, 0, 10, 1, 5, 0, 14, 1, 2, 1, 1, -22, 1, -22,
             3, 0, 14, 1, 7, 13, 3, 2, 0, 0, 0, 1, 1, -22, 3, 0, -1, 1, 2, 3, 1, 2, 3, 1, 3, 0, 2, 1, 3, 0, 3, 1,
             3, 0, 3, 2, 5, 2, 1, 1, 3, 1, 5, 2, 2, 1, 5, 10,
             1, 1, 4, 0, 2, 1, 5, 3, 1, 1, 1, 5, 1, 0, 0, 1, 10]

    def test_how_many_numbers_then_these(self):
        self.assertEqual(answers(self.calls), self.given)

    def test_what_is_handed_in_is_not_changed(self):
        handed = list(self.calls)
        answers(handed)
        self.assertEqual(handed, self.calls)
        self.assertEqual(answers(Untouched(self.calls)), self.given)

    def test_whole_numbers_in_a_list(self):
        given = answers(self.calls)
        self.assertIs(type(given), list)
        self.assertEqual({type(number) for number in given}, {int})

    def test_nothing_is_kept_from_one_time_to_the_next(self):
        self.assertEqual(answers(self.calls), answers(self.calls))
        self.assertEqual(ask(mark(1), chance(1, 1)), [NOT_BEGUN, NOT_BEGUN])
        answers([0, 1, 1, 1, 1, 1, 2, 3])
        self.assertEqual(ask(begin(1, 1, 1, 1), mark(1)), [[0], NONE])

    def test_400_calls(self):
        shelf = told((3, 1, 40), 20, [(d * 3, 100 - d) for d in range(6)])
        many = 400 - len(shelf)
        for row in (bymarks(20, *[20] * 5), play(20, *[1000] * 5), dear(5, 1000), chances()):
            self.assertEqual(ask(*shelf, *[row] * many)[len(shelf):], [last(*shelf, row)] * many)


if __name__ == "__main__":
    unittest.main()
