"""The field of 2^64 elements: numbers below 2^64 as polynomials."""

MODULUS = 0x1000000000000001B
TOP = 0x10000000000000000

# a^(2^64 - 1) is 1 for each a but 0, so one factor fewer is the inverse.
INVERTING = 0xFFFFFFFFFFFFFFFE


def number_of(row):
    """The number that bytes stand for, the lowest first."""
    number = 0
    for byte in reversed(row):
        number = number * 256 + byte
    return number


def bytes_of(number):
    return [(number >> (8 * at)) & 255 for at in range(8)]


def product(a, b):
    result = 0
    shifted = a
    left = b
    while left > 0:
        if (left & 1) == 1:
            result = result ^ shifted
        shifted = shifted << 1
        if shifted >= TOP:
            shifted = shifted ^ MODULUS
        left = left >> 1
    return result


def power(base, exponent):
    result = 1
    square = base
    left = exponent
    while left > 0:
        if (left & 1) == 1:
            result = product(result, square)
        square = product(square, square)
        left = left >> 1
    return result


def inverse(number):
    return power(number, INVERTING)
