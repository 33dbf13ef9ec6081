"""The error results: each is the error code alone."""


def no_client():
    return [-11]


def missing():
    return [-2]


def outside_limits():
    return [-22]


def not_running():
    return [-16]


def too_many():
    return [-28]


def nothing_there():
    return [-33]
