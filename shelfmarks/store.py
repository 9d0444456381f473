"""The calls on one shelf: read from one list of numbers, answered in another.

Each call is a function of the shelf and the numbers told to it (those of its
row last); it gives back the numbers that are answered.
"""

from shelfmarks.fraction import lowest
from shelfmarks.outlook import at_best, best_marks, by_marks, how_often_all
from shelfmarks.refusals import NONE_THERE, NOT_BEGUN, OUT_OF_RANGE, TOO_MANY
from shelfmarks.shelf import MOST_DAYS, MOST_ROWS, Shelf, costs_fit, days_fit, room_fits, row_fits


def begin(shelf, told):
    costs = tuple(told[:3])
    room = told[3]
    if not costs_fit(costs) or not room_fits(room):
        return [OUT_OF_RANGE]
    shelf.begin(costs, room)
    return [0]


def chance(shelf, told):
    wanted = told[0]
    often = told[1]
    if not row_fits(wanted, often):
        return [OUT_OF_RANGE]
    if len(shelf.rows) >= MOST_ROWS:
        return [TOO_MANY]
    shelf.add_row(wanted, often)
    return [how_often_all(shelf.rows)]


def never(shelf, told):
    wanted = told[0]
    if not any([row[0] == wanted for row in shelf.rows]):
        return [NONE_THERE]
    shelf.drop_rows(wanted)
    return [how_often_all(shelf.rows)]


def prices(shelf, told):
    costs = tuple(told)
    if not costs_fit(costs):
        return [OUT_OF_RANGE]
    before = shelf.costs
    shelf.charge(costs)
    return [0] + list(before)


def due_refusal(shelf, fits):
    """The refusal of a call that needs chances, or 0 if none is due."""
    if not fits:
        return OUT_OF_RANGE
    if len(shelf.rows) == 0:
        return NONE_THERE
    return 0


def days_refusal(shelf, days, number):
    """The same, of a call that is told the days and a number within the room."""
    return due_refusal(shelf, days_fit(days) and number <= shelf.room)


def best_outlook(shelf, days):
    return at_best(shelf.costs, shelf.room, shelf.rows, days)


def mark(shelf, told):
    return up(shelf, [told[0], 0])


def marks(shelf, told):
    refused = due_refusal(shelf, True)
    if refused != 0:
        return [refused]
    return [MOST_DAYS] + best_marks(shelf.costs, shelf.room, shelf.rows, MOST_DAYS)


def up(shelf, told):
    days = told[0]
    there = told[1]
    refused = days_refusal(shelf, days, there)
    if refused != 0:
        return [refused]
    return [best_outlook(shelf, days).ups[there]]


def value(shelf, told):
    days = told[0]
    there = told[1]
    refused = days_refusal(shelf, days, there)
    if refused != 0:
        return [refused]
    outlook = best_outlook(shelf, days)
    return [0] + lowest(outlook.ahead[there], outlook.below)


def fill(shelf, told):
    days = told[0]
    number = told[1]
    refused = days_refusal(shelf, days, number)
    if refused != 0:
        return [refused]
    outlook = best_outlook(shelf, days)
    return [0] + lowest(outlook.fills[number], outlook.below)


def bymarks(shelf, told):
    there = told[0]
    day_marks = told[1:]
    # What's there and the marks have the same bound: none may be above the room.
    refused = days_refusal(shelf, len(day_marks), max(told))
    if refused != 0:
        return [refused]
    marked = by_marks(shelf.costs, shelf.room, shelf.rows, day_marks)
    least = best_outlook(shelf, len(day_marks))
    beyond = marked.ahead[there] - least.ahead[there]
    return [0] + lowest(marked.ahead[there], marked.below) + lowest(beyond, marked.below)


BEGIN = 0
BYMARKS = 9

# By the number of a call: its function, and how many whole numbers it has.
CALLS = (begin, chance, never, prices, mark, marks, up, value, fill, bymarks)
WHOLES = (4, 2, 1, 3, 1, 0, 2, 2, 2, 1)


def answer(shelf, number, told):
    if number != BEGIN and not shelf.begun:
        return [NOT_BEGUN]
    return CALLS[number](shelf, told)


def answers(calls):
    """For each call, in order, how many numbers are answered, then these."""
    shelf = Shelf()
    given = []
    place = 0
    while place < len(calls):
        number = calls[place]
        behind = place + 1 + WHOLES[number]
        told = calls[place + 1:behind]
        if number == BYMARKS:
            row_end = behind + 1 + calls[behind]
            told = told + calls[behind + 1:row_end]
            behind = row_end
        answered = answer(shelf, number, told)
        given.append(len(answered))
        given.extend(answered)
        place = behind
    return given
