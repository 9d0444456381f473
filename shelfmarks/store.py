"""The calls on one shelf: read from one list of numbers, answered in another."""

from shelfmarks.calls import made
from shelfmarks.fitting import in_range
from shelfmarks.refusals import NONE_THERE, NOT_BEGUN, OUT_OF_RANGE
from shelfmarks.shelf import Shelf

BEGIN = 0
MARK = 4
BYMARKS = 9
PLAY = 11
SAVES = 17

# By the number of a call: how many whole numbers it has, ahead of a row.
WHOLES = (4, 2, 1, 3, 1, 0, 2, 2, 2, 1, 3, 1, 2, 2, 2, 0, 1, 2, 0, 0)


def has_row(number):
    return number == BYMARKS or number == PLAY


def needs_chances(number):
    return MARK <= number <= SAVES


def answer(shelf, number, told):
    """The numbers that are answered; of the refusals that are due, the one that's told first."""
    if number != BEGIN and not shelf.begun:
        return [NOT_BEGUN]
    if not in_range(shelf, number, told):
        return [OUT_OF_RANGE]
    if needs_chances(number) and len(shelf.rows) == 0:
        return [NONE_THERE]
    return made(shelf, number, told)


def answers(calls):
    """For each call, in order, how many numbers are answered, then these."""
    shelf = Shelf()
    given = []
    place = 0
    while place < len(calls):
        number = calls[place]
        behind = place + 1 + WHOLES[number]
        told = calls[place + 1:behind]
        if has_row(number):
            row_end = behind + 1 + calls[behind]
            told = told + calls[behind + 1:row_end]
            behind = row_end
        answered = answer(shelf, number, told)
        given.append(len(answered))
        given.extend(answered)
        place = behind
    return given
