"""Forms: the eight numbers that say how a box reckons, and the sizes that follow from them."""

from sealedbox.words import HALF_WORD, WORD_BITS

FORM_LENGTH = 8
FORM_BYTES = 32
LEAST = (1, 8, 2, 1, 1, 1, 1, 0)
GREATEST = (4, 32, 8, 4, 8, 16, 8, 127)
SIZES = (8, 16, 32)
HALVES = (2, 4, 8)


class Form:
    """The document's letters, in order: n, N, p, c, w, c', w', noise."""

    def __init__(self, numbers):
        self.numbers = list(numbers)
        self.words = numbers[0]
        self.size = numbers[1]
        self.half = numbers[2]
        self.turn_digits = numbers[3]
        self.turn_bits = numbers[4]
        self.change_digits = numbers[5]
        self.change_bits = numbers[6]
        self.noise = numbers[7]
        self.step = HALF_WORD // self.half


def is_form(numbers):
    return len(numbers) == FORM_LENGTH and are_in_range(numbers) and fit_together(Form(numbers))


def are_in_range(numbers):
    within = all([least <= number <= greatest for least, number, greatest in zip(LEAST, numbers, GREATEST)])
    return within and numbers[1] in SIZES and numbers[2] in HALVES


def fit_together(form):
    return 2 * form.half <= form.size and form.change_digits * form.change_bits <= WORD_BITS


def is_sealable(form, number):
    """Whether the number is one that stands under seals of this form."""
    return number < 2 * form.half


def pair_count(form):
    return 2 * form.words * form.turn_digits


def row_count(form):
    return form.size * form.change_digits


def key_luck_size(form):
    """How many bytes of luck keys need."""
    pairs = pair_count(form) * (8 * form.size + form.size)
    rows = row_count(form) * (2 * form.words + 1)
    return form.words + form.size + pairs + rows


def pairs_size(form):
    """How many bytes all turning pairs have."""
    return pair_count(form) * 2 * form.size * 8


def part_size(form):
    """How many bytes the working part has."""
    return FORM_BYTES + pairs_size(form) + row_count(form) * (form.words + 1) * 2


def seal_size(form):
    """How many bytes a seal has."""
    return 2 * form.words + 2
