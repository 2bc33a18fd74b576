"""Seals: words that hide a number, with a bound of how far off it is."""

from sealedbox.bounds import cut
from sealedbox.lowfirst import bytes_of_all, numbers_of
from sealedbox.luck import put_off
from sealedbox.words import WORD, signed, weighed


class Seal:
    """The words a, the last word b, and the bound."""

    def __init__(self, words, last, bound):
        self.words = words
        self.last = last
        self.bound = bound


def new_seal(form, bits, number, luck):
    words = [luck.next_number(2) for place in range(form.words)]
    error = put_off(luck.next_byte(), form.noise)
    last = (weighed(words, bits) + error + number * form.step) % WORD
    return Seal(words, last, form.noise)


def phase_of(seal, bits):
    return (seal.last - weighed(seal.words, bits)) % WORD


def opened(form, bits, seal):
    """The number that the seal opens to."""
    return (phase_of(seal, bits) + form.step // 2) // form.step % (2 * form.half)


def off_by(form, bits, seal, number):
    """By how much the seal is off from the number."""
    return signed((phase_of(seal, bits) - number * form.step) % WORD)


def seal_bytes(seal):
    return bytes_of_all(seal.words + [seal.last], 2)


def seal_of(octets, bound):
    """The seal that the bytes say, with that bound."""
    words = numbers_of(octets, 2)
    return Seal(words[:-1], words[-1], bound)


def combined(seals, factors):
    """The seals, each times its factor, added; there must be one at least."""
    totals = []
    for place in range(len(seals[0].words)):
        totals.append(weighed([seal.words[place] for seal in seals], factors) % WORD)
    last = weighed([seal.last for seal in seals], factors) % WORD
    return Seal(totals, last, combined_bound([seal.bound for seal in seals], factors))


def combined_bound(bounds, factors):
    return cut(weighed(bounds, [abs(factor) for factor in factors]))


def moved(form, seal, number):
    """The seal of a number that is greater by the given one."""
    return Seal(seal.words, (seal.last + number * form.step) % WORD, seal.bound)
