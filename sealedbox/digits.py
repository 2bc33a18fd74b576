"""Digits: numbers rounded to their highest bits, and taken apart into small signed numbers."""


def rounded(number, width, kept):
    """Of a number of so many bits the highest that are kept, rounded."""
    if kept == width:
        return number
    dropped = width - kept
    return (number + (1 << (dropped - 1))) // (1 << dropped) % (1 << kept)


def digits_of(number, width, many, bits):
    """So many digits of so many bits, of a number of width bits, the highest digit first."""
    base = 1 << bits
    rest = rounded(number, width, many * bits)
    digits = []
    for turn in range(many):
        digit = signed_digit(rest % base, base)
        digits.append(digit)
        rest = (rest - digit) // base
    return list(reversed(digits))


def signed_digit(digit, base):
    if digit >= base // 2:
        return digit - base
    return digit
