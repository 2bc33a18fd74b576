"""Luck: the row of bytes that a seed stands for."""

from sealedbox.lowfirst import number_of

FACTOR = 6364136223846793005
SUMMAND = 1442695040888963407
TWO_TO_56 = 72057594037927936
TWO_TO_64 = 18446744073709551616


class Luck:
    """Gives a seed's bytes one after the other."""

    def __init__(self, seed):
        self.state = seed

    def next_byte(self):
        self.state = (self.state * FACTOR + SUMMAND) % TWO_TO_64
        return self.state // TWO_TO_56

    def next_bytes(self, many):
        return [self.next_byte() for turn in range(many)]

    def next_number(self, size):
        return number_of(self.next_bytes(size))


def put_off(octet, noise):
    """What a byte of luck puts off by."""
    return octet % (2 * noise + 1) - noise
