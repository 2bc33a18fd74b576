"""Tables: a seal sent through a table becomes a seal of what the table gives."""

from sealedbox.bounds import made_bound
from sealedbox.digits import digits_of, rounded
from sealedbox.polynomials import RING, RING_BITS, added, lessened, product, times_power
from sealedbox.seals import Seal
from sealedbox.words import HALF_WORD, QUARTER_WORD, WORD, WORD_BITS, weighed


def through_table(part, seal, table):
    """The seal that comes out of the table; what goes in must be sure."""
    pair = first_pair(part.form, seal, table)
    for index, word in enumerate(seal.words):
        pair = turned_pair(part, pair, index, to_ring(part.form, word))
    return changed_seal(part, hiding_words(pair[0]), word_out(pair[1][0]))


def to_ring(form, word):
    """The word turned to the ring: a power of X."""
    return (word + QUARTER_WORD // form.size) // (HALF_WORD // form.size) % (2 * form.size)


def table_polynomial(form, table):
    # What lies less than half a step below p steps is p itself, of which a table gives minus its first number.
    values = table + [-table[0]]
    width = form.size // form.half
    unit = RING // (2 * form.half)
    return [values[(power + width // 2) // width] * unit % RING for power in range(form.size)]


def first_pair(form, seal, table):
    power = 2 * form.size - to_ring(form, seal.last)
    return ([0] * form.size, times_power(table_polynomial(form, table), power))


def turned_pair(part, pair, index, power):
    """The pair turned by word number index of the seal, if the secret bit of this word is 1."""
    form = part.form
    digits = []
    for polynomial in pair:
        change = lessened(times_power(polynomial, power), polynomial)
        digits.extend(digit_polynomials(form, change))
    a = pair[0]
    b = pair[1]
    first = index * len(digits)
    for factor, turning in zip(digits, part.pairs[first:first + len(digits)]):
        a = added(a, product(factor, turning[0]))
        b = added(b, product(factor, turning[1]))
    return (a, b)


def digit_polynomials(form, polynomial):
    """The polynomial taken apart number by number, a polynomial for each digit."""
    many = form.turn_digits
    apart = [digits_of(number, RING_BITS, many, form.turn_bits) for number in polynomial]
    return [column(apart, place) for place in range(many)]


def column(rows, place):
    return [row[place] for row in rows]


def word_out(number):
    """The word taken out of a number of the ring."""
    return rounded(number, RING_BITS, WORD_BITS)


def hiding_words(polynomial):
    """The words taken out of a pair's a, in the order of the secret polynomial's numbers that they go with."""
    turned = [-number % RING for number in reversed(polynomial[1:])]
    return [word_out(number) for number in polynomial[:1] + turned]


def changed_seal(part, hiding, last):
    """The seal under the secret bits of what was under the secret polynomial."""
    form = part.form
    digits = []
    for word in hiding:
        digits.extend(digits_of(word, WORD_BITS, form.change_digits, form.change_bits))
    totals = [weighed(column(part.rows, place), digits) for place in range(form.words + 1)]
    words = [-total % WORD for total in totals[:-1]]
    return Seal(words, (last - totals[-1]) % WORD, made_bound(form))
