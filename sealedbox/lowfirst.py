"""Bytes of numbers, the lowest first, and lists cut into blocks."""


def number_of(octets):
    """The number that the bytes say."""
    number = 0
    for octet in reversed(octets):
        number = number * 256 + octet
    return number


def bytes_of(number, size):
    """The number as that many bytes."""
    octets = []
    rest = number
    for place in range(size):
        octets.append(rest % 256)
        rest = rest // 256
    return octets


def blocks_of(row, size):
    """The row cut into lists of that size, one behind another."""
    return [row[at:at + size] for at in range(0, len(row), size)]


def numbers_of(octets, size):
    """The numbers that the bytes say, each having that many bytes."""
    return [number_of(block) for block in blocks_of(octets, size)]


def bytes_of_all(numbers, size):
    """The numbers one behind another, each as that many bytes."""
    octets = []
    for number in numbers:
        octets.extend(bytes_of(number, size))
    return octets
