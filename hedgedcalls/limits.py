"""Ranges of single numbers, and the statuses."""

OK = 0
CANCELLED = 1
UNKNOWN = 2
DEADLINE_EXCEEDED = 4
UNAVAILABLE = 14
REFUSED = 100


def within(number, least, greatest):
    return least <= number <= greatest


def is_status(number):
    return within(number, 0, 16) or number == REFUSED
