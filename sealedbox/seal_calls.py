"""The calls on the seals of one box that need no secrets and are no uses."""

from sealedbox.bounds import GREATEST_BOUND, is_sure
from sealedbox.box import has_room, put_seal, put_seals, seals_at
from sealedbox.forms import is_sealable, seal_size
from sealedbox.lowfirst import blocks_of
from sealedbox.refusals import NO_ROOM, NO_SEAL, WRONG_LENGTH, WRONG_NUMBER, refused
from sealedbox.seals import combined, moved, seal_of

FACTOR_LIMIT = 128
MOST_MIXED = 8


def answer_read(box, numbers, rows):
    bound = numbers[1]
    octets = rows[0]
    if bound > GREATEST_BOUND:
        return refused(WRONG_NUMBER)
    if len(octets) != seal_size(box.part.form):
        return refused(WRONG_LENGTH)
    if not has_room(box, 1):
        return refused(NO_ROOM)
    return [0, put_seal(box, seal_of(octets, bound))]


def answer_drop(box, numbers, rows):
    h = numbers[1]
    if h not in box.seals:
        return refused(NO_SEAL)
    box.seals.pop(h)
    return [0]


def answer_count(box, numbers, rows):
    return [0, len(box.seals)]


def answer_add(box, numbers, rows):
    return put_sums(box, numbers[1:], [[1, 1]])


def answer_sub(box, numbers, rows):
    return put_sums(box, numbers[1:], [[1, -1]])


def answer_times(box, numbers, rows):
    factor = numbers[2]
    if not is_factor(factor):
        return refused(WRONG_NUMBER)
    return put_sums(box, [numbers[1]], [[factor]])


def answer_plus(box, numbers, rows):
    seal = box.seals.get(numbers[1])
    number = numbers[2]
    form = box.part.form
    if not is_sealable(form, number):
        return refused(WRONG_NUMBER)
    if seal is None:
        return refused(NO_SEAL)
    if not has_room(box, 1):
        return refused(NO_ROOM)
    return [0, put_seal(box, moved(form, seal, number))]


def answer_mix(box, numbers, rows):
    places = rows[0]
    factors = rows[1]
    if not are_mixable(len(places), len(factors)) or not all([is_factor(factor) for factor in factors]):
        return refused(WRONG_NUMBER)
    return put_sums(box, places, blocks_of(factors, len(places)))


def answer_sure(box, numbers, rows):
    seal = box.seals.get(numbers[1])
    if seal is None:
        return refused(NO_SEAL)
    return [0, 1 if is_sure(box.part.form, seal.bound) else 0]


def is_factor(number):
    return -FACTOR_LIMIT <= number < FACTOR_LIMIT


def are_mixable(seal_count, factor_count):
    """Whether there are 1 to 8 seals, and 1 to 8 whole rows of factors for them."""
    if not 1 <= seal_count <= MOST_MIXED or factor_count % seal_count != 0:
        return False
    return 1 <= factor_count // seal_count <= MOST_MIXED


def put_sums(box, places, factor_rows):
    """Puts, of each row of factors, the sum of the factors times the seals at these places."""
    seals = seals_at(box, places)
    if seals is None:
        return refused(NO_SEAL)
    if not has_room(box, len(factor_rows)):
        return refused(NO_ROOM)
    return [0] + put_seals(box, [combined(seals, factors) for factors in factor_rows])


HANDLERS = {
    16: answer_read,
    18: answer_drop,
    19: answer_count,
    20: answer_add,
    21: answer_sub,
    22: answer_times,
    23: answer_plus,
    24: answer_mix,
    25: answer_sure,
}


def is_seal_call(kind):
    return kind in HANDLERS


def answer_seal_call(kind, box, numbers, rows):
    return HANDLERS[kind](box, numbers, rows)
