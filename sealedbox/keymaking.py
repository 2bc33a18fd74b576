"""Keys: the secrets and the working part, made of luck byte by byte."""

from sealedbox.luck import put_off
from sealedbox.polynomials import RING, RING_BITS, added, product
from sealedbox.words import WORD, WORD_BITS, weighed
from sealedbox.workpart import WorkPart


class Secrets:
    """The secret bits, one for each word of a seal, and the secret polynomial."""

    def __init__(self, bits, polynomial):
        self.bits = bits
        self.polynomial = polynomial


def make_secrets(form, luck):
    bits = [octet % 2 for octet in luck.next_bytes(form.words)]
    polynomial = [octet % 2 for octet in luck.next_bytes(form.size)]
    return Secrets(bits, polynomial)


def make_part(form, secrets, luck):
    pairs = make_pairs(form, secrets, luck)
    rows = make_rows(form, secrets, luck)
    return WorkPart(form, pairs, rows)


def make_pairs(form, secrets, luck):
    pairs = []
    for bit in secrets.bits:
        for side in (0, 1):
            for digit in range(form.turn_digits):
                lift = bit << (RING_BITS - form.turn_bits * (digit + 1))
                pairs.append(make_pair(form, secrets, luck, side, lift))
    return pairs


def make_pair(form, secrets, luck, side, lift):
    """One turning pair; side is 0 if a's number of X^0 is lifted, 1 if b's is."""
    a = [luck.next_number(8) % RING for place in range(form.size)]
    error = [put_off(octet, form.noise) for octet in luck.next_bytes(form.size)]
    # b hides a as it came: lifting a first would cancel out what the lift is for.
    b = added(product(secrets.polynomial, a), error)
    pair = (a, b)
    lifted = pair[side]
    lifted[0] = (lifted[0] + lift) % RING
    return pair


def make_rows(form, secrets, luck):
    rows = []
    for number in secrets.polynomial:
        for digit in range(form.change_digits):
            lift = number << (WORD_BITS - form.change_bits * (digit + 1))
            rows.append(make_row(form, secrets, luck, lift))
    return rows


def make_row(form, secrets, luck, lift):
    words = [luck.next_number(2) for place in range(form.words)]
    error = put_off(luck.next_byte(), form.noise)
    return words + [(weighed(words, secrets.bits) + error + lift) % WORD]
