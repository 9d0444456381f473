"""What is to be looked for with some days to come, exactly."""


def how_often_all(rows):
    """How often all rows come, together."""
    return sum([often for wanted, often in rows])


def least_numbers(fills):
    """By what's there: the number, no less than that, whose fill is least."""
    best = len(fills) - 1
    numbers = []
    for number in range(len(fills) - 1, -1, -1):
        # Of two that are as good the lower one counts, so a tie moves on too.
        if fills[number] <= fills[best]:
            best = number
        numbers.append(best)
    numbers.reverse()
    return numbers


class Outlook:
    """The days to come, put one before another, the last day first.

    fills: by the number filled up to, with nothing there before.
    ups: by what's there, up to how many it's filled.
    ahead: by what's there, what is to be looked for.

    The numbers of fills and ahead are to be divided by below. They are kept
    whole, so that they can be compared and nothing is rounded.
    """

    def __init__(self, costs, room, rows):
        self.costs = costs
        self.rows = rows
        self.below = 1
        self.fills = [0] * (room + 1)
        self.ups = list(range(room + 1))
        # Behind the last day nothing is worth or costs anything more.
        self.ahead = [0] * (room + 1)

    def put_best_day(self):
        """One day more to come, filled so that least is to be looked for."""
        fills = self.fills_of_one_more()
        self.put_day(fills, least_numbers(fills))

    def put_marked_day(self, mark):
        """One day more to come, filled to the mark, or not at all if more is there."""
        fills = self.fills_of_one_more()
        self.put_day(fills, [max(mark, there) for there in range(len(fills))])

    def fills_of_one_more(self):
        return [self.filled_to(number) for number in range(len(self.ahead))]

    def filled_to(self, number):
        """One more day, nothing there, filled up to the number; over the next day's below."""
        total = self.costs[0] * number * self.next_below()
        for wanted, often in self.rows:
            over = max(number - wanted, 0)
            short = max(wanted - number, 0)
            day = self.costs[1] * over + self.costs[2] * short
            total += often * (day * self.below + self.ahead[over])
        return total

    def next_below(self):
        return self.below * how_often_all(self.rows)

    def put_day(self, fills, ups):
        self.below = self.next_below()
        self.fills = fills
        self.ups = ups
        # A fill counts all as bought: what lies there already is taken off.
        piece = self.costs[0] * self.below
        self.ahead = [fills[number] - piece * there for there, number in enumerate(ups)]


def at_best(costs, room, rows, days):
    """The outlook with so many days to come, each filled as is best."""
    outlook = Outlook(costs, room, rows)
    for day in range(days):
        outlook.put_best_day()
    return outlook


def by_marks(costs, room, rows, marks):
    """The outlook with as many days to come as marks, the last day's mark first."""
    outlook = Outlook(costs, room, rows)
    for mark in marks:
        outlook.put_marked_day(mark)
    return outlook


def best_ups(costs, room, rows, days):
    """By what's there, up to how many it's best filled: for 1 day to come, for 2, and so on."""
    outlook = Outlook(costs, room, rows)
    ups = []
    for day in range(days):
        outlook.put_best_day()
        ups.append(outlook.ups)
    return ups
