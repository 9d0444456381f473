"""What the tests share: calls by name, their answers one by one, and a slow
second reckoning in fractions, straight from the document's words."""

from fractions import Fraction
from functools import lru_cache
from itertools import product
from random import Random

from shelfmarks.store import answers

NONE, NOT_BEGUN, RANGE, TOO_MANY = [-6], [-11], [-22], [-28]
HUGE = 4294967295


def begin(b, k, m, r):
    return [0, b, k, m, r]


def chance(d, n):
    return [1, d, n]


def never(d):
    return [2, d]


def prices(b, k, m):
    return [3, b, k, m]


def mark(n):
    return [4, n]


def marks():
    return [5]


def up(n, x):
    return [6, n, x]


def value(n, x):
    return [7, n, x]


def fill(n, y):
    return [8, n, y]


def bymarks(x, *told):
    return [9, x, len(told), *told]


def same(n, x, s):
    return [10, n, x, s]


def play(x, *wanted):
    return [11, x, len(wanted), *wanted]


def more(n, x):
    return [12, n, x]


def dear(n, m):
    return [13, n, m]


def keeping(n, k):
    return [14, n, k]


def mean():
    return [15]


def day(y):
    return [16, y]


def saves(n, x):
    return [17, n, x]


def chances():
    return [18]


def state():
    return [19]


def ask(*calls):
    """The answer of each call, made in order on one new object."""
    assert 1 <= len(calls) <= 400, len(calls)
    given = answers([number for call in calls for number in call])
    split, place = [], 0
    while place < len(given):
        behind = place + 1 + given[place]
        split.append(given[place + 1:behind])
        place = behind
    assert place == len(given) and len(split) == len(calls), given
    return split


def last(*calls):
    return ask(*calls)[-1]


def told(costs, room, rows):
    """The calls that tell a shelf."""
    return [begin(*costs, room)] + [chance(*row) for row in rows]


def asked_of(shelf, *calls):
    """The answers of the calls alone, made on a shelf (costs, room, rows)."""
    return ask(*told(*shelf), *calls)[1 + len(shelf[2]):]


def questions(room):
    """Every call that looks at the chances; these answer by the share of each row."""
    asked = [marks(), mean()]
    for x in sorted({0, room // 2, room, room + 1}):
        asked.append(day(x))
        for n in range(1, 6):
            asked += [up(n, x), value(n, x), fill(n, x), more(n, x), same(n, x, room // 2), saves(n, x)]
    for n in range(1, 6):
        asked += [mark(n), bymarks(0, *[room] * n), play(0, *[room // 2] * n), dear(n, 1000), keeping(n, 0)]
    return asked


def every_question(room):
    """Calls that change nothing and by which any change would be seen."""
    return [chances(), state()] + questions(room)


def pair(fraction):
    return [fraction.numerator, fraction.denominator]


class Reckoning:
    """The document's words, in fractions, without a thought for speed."""

    def __init__(self, costs, room, rows):
        self.bought, self.kept, self.missed = costs
        self.room = room
        self.rows = rows
        self.value = lru_cache(None)(self.value)

    def day(self, x, y, behind):
        """x there, filled up to y, then as behind tells of what is left."""
        together = sum(often for wanted, often in self.rows)
        expected = Fraction(self.bought * (y - x))
        for wanted, often in self.rows:
            left = y - wanted if y > wanted else 0
            missing = wanted - y if wanted > y else 0
            cost = self.kept * left + self.missed * missing + behind(left)
            expected += Fraction(often, together) * cost
        return expected

    def ways(self, n, x):
        """What is to be looked for by each number that may be filled up to now."""
        return {y: self.day(x, y, lambda left: self.value(n - 1, left)) for y in range(x, self.room + 1)}

    def value(self, n, x):
        return min(self.ways(n, x).values()) if n else Fraction(0)

    def up(self, n, x):
        ways = self.ways(n, x)
        return min(y for y in ways if ways[y] == min(ways.values()))

    def fill(self, n, y):
        return self.ways(n, 0)[y]

    def by_marks(self, x, day_marks):
        if not day_marks:
            return Fraction(0)
        y = x if x > day_marks[-1] else day_marks[-1]
        return self.day(x, y, lambda left: self.by_marks(left, day_marks[:-1]))

    def play(self, x, wanted):
        """What is answered, number by number."""
        cost, numbers = 0, []
        for gone, pieces in enumerate(wanted):
            y = self.up(len(wanted) - gone, x)
            bought, x, missing = y - x, max(y - pieces, 0), max(pieces - y, 0)
            cost += self.bought * bought + self.kept * x + self.missed * missing
            numbers += [bought, x, missing]
        return [cost] + numbers

    def mean(self):
        each = [wanted for wanted, often in self.rows for time in range(often)]
        return Fraction(sum(each), len(each))

    def any_way(self, n, x):
        """What is to be looked for by each way at all: a choice for each course of the days."""
        if n == 0:
            return [Fraction(0)]
        found = []
        for y in range(x, self.room + 1):
            behind = [self.any_way(n - 1, max(y - wanted, 0)) for wanted, often in self.rows]
            today = self.day(x, y, lambda left: 0)
            together = sum(often for wanted, often in self.rows)
            for course in product(*behind):
                found.append(today + sum(Fraction(row[1], together) * cost for row, cost in zip(self.rows, course)))
        return found


def some_shelves(how_many, seed):
    """Shelves (costs, room, rows), the same ones every time; small costs, so that ties come."""
    chosen = Random(seed)
    shelves = []
    for turn in range(how_many):
        most = chosen.choice([2, 5, 30, 1000])
        bought = chosen.randint(0, most)
        missed = chosen.randint(bought, most)
        room = chosen.choice([1, 2, 3, 6, 11])
        wanted = chosen.choice([1, 3, 8, 20])
        often = chosen.choice([1, 3, 100])
        rows = [(chosen.randint(0, wanted), chosen.randint(1, often)) for row in range(chosen.randint(1, 6))]
        shelves.append(((bought, chosen.randint(0, most), missed), room, rows))
    return shelves
