"""The field of 2^128 elements, each a block of 16 bytes."""

from lanternchecks.blocks import high_first

BLOCK = 16
TOP_PLACE = 127

# x^128 is x^7 + x^2 + x + 1; the highest bit stands for x^0.
FOLDED = 0xE1000000000000000000000000000000


def number_of(block):
    """The block's bytes as one number, the highest first."""
    number = 0
    for byte in block:
        number = number * 256 + byte
    return number


def times_x(number):
    # x^i stands at place 127 - i, so a power more is a place further down.
    if (number & 1) == 1:
        return (number >> 1) ^ FOLDED
    return number >> 1


def block_product(first, second):
    factor = number_of(second)
    shifted = number_of(first)
    result = 0
    for power in range(TOP_PLACE + 1):
        if ((factor >> (TOP_PLACE - power)) & 1) == 1:
            result = result ^ shifted
        shifted = times_x(shifted)
    return high_first(result, BLOCK)
