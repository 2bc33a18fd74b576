"""Seals: words that hide a number, with a bound of how far off it is."""

from sealedbox.lowfirst import bytes_of_all
from sealedbox.luck import put_off
from sealedbox.words import WORD, masked, signed


class Seal:
    """The words a, the last word b, and the bound."""

    def __init__(self, words, last, bound):
        self.words = words
        self.last = last
        self.bound = bound


def new_seal(form, bits, number, luck):
    words = [luck.next_number(2) for place in range(form.words)]
    error = put_off(luck.next_byte(), form.noise)
    last = (masked(words, bits) + error + number * form.step) % WORD
    return Seal(words, last, form.noise)


def phase_of(seal, bits):
    return (seal.last - masked(seal.words, bits)) % WORD


def opened(form, bits, seal):
    """The number that the seal opens to."""
    return (phase_of(seal, bits) + form.step // 2) // form.step % (2 * form.half)


def off_by(form, bits, seal, number):
    """By how much the seal is off from the number."""
    return signed((phase_of(seal, bits) - number * form.step) % WORD)


def seal_bytes(seal):
    return bytes_of_all(seal.words + [seal.last], 2)
