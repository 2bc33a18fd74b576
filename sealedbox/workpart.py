"""Working parts: what somebody without the secrets reckons with, and its bytes."""

from sealedbox.forms import FORM_BYTES, Form, is_form, pairs_size, part_size
from sealedbox.lowfirst import blocks_of, bytes_of_all, numbers_of
from sealedbox.polynomials import RING

# What give and take still carry.
MOST_BYTES = 4000


class WorkPart:
    """A form, turning pairs (a, b) of polynomials, and changing rows of n + 1 words."""

    def __init__(self, form, pairs, rows):
        self.form = form
        self.pairs = pairs
        self.rows = rows


def part_bytes(part):
    octets = bytes_of_all(part.form.numbers, 4)
    for pair in part.pairs:
        octets.extend(bytes_of_all(pair[0], 8))
        octets.extend(bytes_of_all(pair[1], 8))
    for row in part.rows:
        octets.extend(bytes_of_all(row, 2))
    return octets


def form_numbers(octets):
    return numbers_of(octets[:FORM_BYTES], 4)


def pair_numbers(form, octets):
    return numbers_of(octets[FORM_BYTES:FORM_BYTES + pairs_size(form)], 8)


def part_fault(octets):
    """The place of the fault of a working part's bytes, or None if they are faultless."""
    if len(octets) < FORM_BYTES:
        return len(octets)
    numbers = form_numbers(octets)
    if not is_form(numbers):
        return 0
    form = Form(numbers)
    if len(octets) != part_size(form):
        return min(len(octets), part_size(form))
    return pair_fault(form, octets)


def pair_fault(form, octets):
    for index, number in enumerate(pair_numbers(form, octets)):
        if number >= RING:
            return FORM_BYTES + 8 * index
    return None


def part_of(octets):
    """The working part that faultless bytes say."""
    form = Form(form_numbers(octets))
    polynomials = blocks_of(pair_numbers(form, octets), form.size)
    words = numbers_of(octets[FORM_BYTES + pairs_size(form):], 2)
    pairs = [(block[0], block[1]) for block in blocks_of(polynomials, 2)]
    return WorkPart(form, pairs, blocks_of(words, form.words + 1))
