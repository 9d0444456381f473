"""How days go if it's known what is wanted."""


def played(ups, there, wanted):
    """Of each day how many are bought, kept and missed.

    ups: by what's there, up to how many it's filled, for the last day first.
    """
    days = []
    for fill_up, pieces in zip(reversed(ups), wanted):
        filled = fill_up[there]
        bought = filled - there
        there = max(filled - pieces, 0)
        days.append((bought, there, max(pieces - filled, 0)))
    return days


def cost_of(costs, days):
    return sum([costs[0] * bought + costs[1] * kept + costs[2] * missed for bought, kept, missed in days])
