"""The numbers by which a call is refused."""

NONE_THERE = -6
NOT_BEGUN = -11
OUT_OF_RANGE = -22
TOO_MANY = -28
