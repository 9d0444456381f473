"""What is told of one shelf, and within which bounds."""

MOST_COST = 1000
MOST_ROOM = 20
MOST_WANTED = 20
MOST_OFTEN = 100
MOST_ROWS = 6
MOST_DAYS = 5
MOST_PLAYED = 1000


def costs_fit(costs):
    """Whether bought, kept and missed are as they may be told."""
    return max(costs) <= MOST_COST and costs[0] <= costs[2]


def with_kept(costs, kept):
    """The costs, but a kept one costs so much."""
    return (costs[0], kept, costs[2])


def with_missed(costs, missed):
    """The costs, but a missed one costs so much."""
    return (costs[0], costs[1], missed)


def room_fits(room):
    return 1 <= room <= MOST_ROOM


def row_fits(wanted, often):
    return wanted <= MOST_WANTED and 1 <= often <= MOST_OFTEN


def days_fit(days):
    return 1 <= days <= MOST_DAYS


class Shelf:
    """The costs (bought, kept, missed), the room and the rows of chances (wanted, how often)."""

    def __init__(self):
        self.begun = False
        self.costs = (0, 0, 0)
        self.room = 0
        self.rows = []

    def begin(self, costs, room):
        self.begun = True
        self.costs = costs
        self.room = room
        self.rows = []

    def charge(self, costs):
        self.costs = costs

    def add_row(self, wanted, often):
        self.rows.append((wanted, often))

    def drop_rows(self, wanted):
        self.rows = [row for row in self.rows if row[0] != wanted]
