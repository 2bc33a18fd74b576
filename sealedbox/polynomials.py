"""Polynomials: lists of N numbers modulo 2^52, that of X^0 first, where X^N is -1."""

RING = 4503599627370496
RING_BITS = 52


def times_x(polynomial):
    return [-polynomial[-1]] + polynomial[:-1]


def times_power(polynomial, power):
    """X to the power times the polynomial."""
    turned = list(polynomial)
    for turn in range(power):
        turned = times_x(turned)
    return [number % RING for number in turned]


def added(first, second):
    return [(x + y) % RING for x, y in zip(first, second)]


def lessened(first, second):
    return [(x - y) % RING for x, y in zip(first, second)]


def product(first, second):
    total = [0] * len(first)
    turned = list(second)
    for factor in first:
        total = [x + factor * y for x, y in zip(total, turned)]
        turned = times_x(turned)
    return [number % RING for number in total]
