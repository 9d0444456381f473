"""Fractions as they are answered."""


def common_part(above, below):
    """The greatest number that divides both."""
    while below != 0:
        rest = above % below
        above = below
        below = rest
    return above


def lowest(above, below):
    """The fraction as two numbers with nothing in common; below is 1 or more."""
    common = common_part(abs(above), below)
    return [above // common, below // common]
