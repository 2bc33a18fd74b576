"""Bounds: how far off what a table makes may be, and which bounds are sure."""

from sealedbox.words import QUARTER_WORD, WORD_BITS

TWO_TO_35 = 34359738368
TWO_TO_36 = 68719476736
# It bounds nothing: no signed word is further off.
GREATEST_BOUND = 32768


def table_bound(form):
    """The bound of what a table makes, not cut at 32768."""
    turned = form.words * turning_bound(form) + (form.size + 1) * TWO_TO_35
    return turned // TWO_TO_36 + changing_bound(form)


def made_bound(form):
    """The bound of a seal that comes out of a table."""
    return cut(table_bound(form))


def cut(bound):
    return min(bound, GREATEST_BOUND)


def turning_bound(form):
    """What turning by one word of a seal may put off by, in the ring's numbers."""
    dropped = (form.size + 1) * (1 << (51 - form.turn_digits * form.turn_bits))
    noisy = 2 * form.turn_digits * form.size * (1 << (form.turn_bits - 1)) * form.noise
    return dropped + noisy


def changing_bound(form):
    """What the change back to a seal's words may put off by."""
    noisy = form.size * form.change_digits * (1 << (form.change_bits - 1)) * form.noise
    return form.size * changing_loss(form) + noisy


def changing_loss(form):
    used = form.change_digits * form.change_bits
    if used < WORD_BITS:
        return 1 << (WORD_BITS - 1 - used)
    return 0


def greatest_sure(form):
    """The greatest bound that is sure, or -1 if none is."""
    rounding = (form.words + 1) * (QUARTER_WORD // form.size)
    return max(form.step // 2 - rounding - 1, -1)


def is_sure(form, bound):
    return bound <= greatest_sure(form)
