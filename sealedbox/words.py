"""Words: whole numbers modulo 65536."""

WORD = 65536
HALF_WORD = 32768
WORD_BITS = 16


def signed(word):
    if word < HALF_WORD:
        return word
    return word - WORD


def masked(words, bits):
    """The sum of the words times the secret bits."""
    return sum([word * bit for word, bit in zip(words, bits)])
