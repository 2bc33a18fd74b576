"""Words: whole numbers modulo 65536."""

WORD = 65536
HALF_WORD = 32768
QUARTER_WORD = 16384
WORD_BITS = 16


def signed(word):
    if word < HALF_WORD:
        return word
    return word - WORD


def weighed(numbers, factors):
    """The sum of the numbers, each times its factor."""
    return sum([number * factor for number, factor in zip(numbers, factors)])
