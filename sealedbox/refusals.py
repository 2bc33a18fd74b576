"""Refusals: the numbers that stand first in the answer of a refused call, written without their minus."""

WRONG_NUMBER = 1
WRONG_LENGTH = 2
NO_ROOM = 3
NOT_BEGUN = 4
NO_SEAL = 5
NO_SECRETS = 6
NO_USE_MORE = 7
NOT_SURE = 8
FAULTY_BYTES = 9
TOO_MANY_BYTES = 10


def refused(reason):
    return [-reason]


def refused_at(place):
    """Faulty bytes, with the place of their fault."""
    return [-FAULTY_BYTES, place]
