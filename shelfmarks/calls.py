"""What each call does and answers.

A call is a function of the shelf and the numbers told to it (those of its row
last). It is made with numbers in range alone and, where chances are needed,
with chances there.
"""

from shelfmarks.course import cost_of, played
from shelfmarks.fraction import lowest
from shelfmarks.outlook import at_best, best_ups, by_marks, how_often_all
from shelfmarks.refusals import NONE_THERE, TOO_MANY
from shelfmarks.shelf import MOST_DAYS, MOST_ROWS, with_kept, with_missed


def begin(shelf, told):
    shelf.begin(tuple(told[:3]), told[3])
    return [0]


def chance(shelf, told):
    if len(shelf.rows) >= MOST_ROWS:
        return [TOO_MANY]
    shelf.add_row(told[0], told[1])
    return [how_often_all(shelf.rows)]


def never(shelf, told):
    wanted = told[0]
    if not any([row[0] == wanted for row in shelf.rows]):
        return [NONE_THERE]
    shelf.drop_rows(wanted)
    return [how_often_all(shelf.rows)]


def prices(shelf, told):
    before = shelf.costs
    shelf.charge(tuple(told))
    return [0] + list(before)


def chances(shelf, told):
    answered = [len(shelf.rows)]
    for row in shelf.rows:
        answered.extend(row)
    return answered


def state(shelf, told):
    return [how_often_all(shelf.rows)] + list(shelf.costs) + [shelf.room]


def best_outlook(shelf, days):
    return at_best(shelf.costs, shelf.room, shelf.rows, days)


def marked_outlook(shelf, day_marks):
    return by_marks(shelf.costs, shelf.room, shelf.rows, day_marks)


def mark_at(shelf, costs, days):
    """The mark, if it cost so much."""
    return at_best(costs, shelf.room, shelf.rows, days).ups[0]


def mark(shelf, told):
    return [mark_at(shelf, shelf.costs, told[0])]


def marks(shelf, told):
    ups = best_ups(shelf.costs, shelf.room, shelf.rows, MOST_DAYS)
    return [MOST_DAYS] + [fill_up[0] for fill_up in ups]


def up(shelf, told):
    return [best_outlook(shelf, told[0]).ups[told[1]]]


def value(shelf, told):
    least = best_outlook(shelf, told[0])
    return [0] + lowest(least.ahead[told[1]], least.below)


def fill(shelf, told):
    least = best_outlook(shelf, told[0])
    return [0] + lowest(least.fills[told[1]], least.below)


def more(shelf, told):
    there = told[1]
    least = best_outlook(shelf, told[0])
    return [0] + lowest(least.ahead[there + 1] - least.ahead[there], least.below)


def beyond_least(shelf, marked, days, there):
    """By how much more is to be looked for, filled to marks, than at the least."""
    least = best_outlook(shelf, days)
    return lowest(marked.ahead[there] - least.ahead[there], marked.below)


def bymarks(shelf, told):
    there = told[0]
    day_marks = told[1:]
    marked = marked_outlook(shelf, day_marks)
    return [0] + lowest(marked.ahead[there], marked.below) + beyond_least(shelf, marked, len(day_marks), there)


def same(shelf, told):
    marked = marked_outlook(shelf, [told[2]] * told[0])
    return [0] + lowest(marked.ahead[told[1]], marked.below)


def saves(shelf, told):
    # Up to a mark of 0 nothing is ever bought.
    marked = marked_outlook(shelf, [0] * told[0])
    return [0] + beyond_least(shelf, marked, told[0], told[1])


def play(shelf, told):
    wanted = told[1:]
    ups = best_ups(shelf.costs, shelf.room, shelf.rows, len(wanted))
    days = played(ups, told[0], wanted)
    answered = [cost_of(shelf.costs, days)]
    for numbers in days:
        answered.extend(numbers)
    return answered


def dear(shelf, told):
    costs = with_missed(shelf.costs, told[1])
    return [mark_at(shelf, costs, told[0]), mark_at(shelf, shelf.costs, told[0])]


def keeping(shelf, told):
    costs = with_kept(shelf.costs, told[1])
    return [mark_at(shelf, costs, told[0]), mark_at(shelf, shelf.costs, told[0])]


def mean(shelf, told):
    pieces = sum([wanted * often for wanted, often in shelf.rows])
    return [0] + lowest(pieces, how_often_all(shelf.rows))


def day(shelf, told):
    # Where buying is for nothing, keeping and missing are all that a day costs.
    costs = (0, shelf.costs[1], shelf.costs[2])
    one_day = at_best(costs, shelf.room, shelf.rows, 1)
    return [0] + lowest(one_day.fills[told[0]], one_day.below)


# By the number of the call.
CALLS = (
    begin, chance, never, prices, mark, marks, up, value, fill, bymarks,
    same, play, more, dear, keeping, mean, day, saves, chances, state,
)


def made(shelf, number, told):
    """The numbers that the call answers."""
    return CALLS[number](shelf, told)
