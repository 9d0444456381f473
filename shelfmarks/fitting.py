"""Of each call, by its number: whether what is told to it is in range."""

from shelfmarks.shelf import MOST_PLAYED, costs_fit, days_fit, room_fits, row_fits, with_kept, with_missed


def whatever(shelf, told):
    return True


def shelf_told(shelf, told):
    return costs_fit(told[:3]) and room_fits(told[3])


def row_told(shelf, told):
    return row_fits(told[0], told[1])


def costs_told(shelf, told):
    return costs_fit(told)


def days_told(shelf, told):
    return days_fit(told[0])


def within_room(shelf, told):
    return max(told) <= shelf.room


def days_within_room(shelf, told):
    """Days, then numbers of which none may be above the room."""
    return days_fit(told[0]) and within_room(shelf, told[1:])


def days_one_more(shelf, told):
    return days_fit(told[0]) and told[1] + 1 <= shelf.room


def marks_told(shelf, told):
    """What's there, then a mark for each day; none of them may be above the room."""
    return days_fit(len(told) - 1) and within_room(shelf, told)


def wanted_told(shelf, told):
    """What's there, then what's wanted each day, which may well be above the room."""
    return days_fit(len(told) - 1) and told[0] <= shelf.room and max(told[1:]) <= MOST_PLAYED


def days_missed(shelf, told):
    return days_fit(told[0]) and costs_fit(with_missed(shelf.costs, told[1]))


def days_kept(shelf, told):
    return days_fit(told[0]) and costs_fit(with_kept(shelf.costs, told[1]))


FITS = (
    shelf_told,        # begin
    row_told,          # chance
    whatever,          # never
    costs_told,        # prices
    days_told,         # mark
    whatever,          # marks
    days_within_room,  # up
    days_within_room,  # value
    days_within_room,  # fill
    marks_told,        # bymarks
    days_within_room,  # same
    wanted_told,       # play
    days_one_more,     # more
    days_missed,       # dear
    days_kept,         # keeping
    whatever,          # mean
    within_room,       # day
    days_within_room,  # saves
    whatever,          # chances
    whatever,          # state
)


def in_range(shelf, number, told):
    return FITS[number](shelf, told)
