"""The cyclic check of 32 bits (CRC-32C)."""

POLYNOMIAL = 0x82F63B78
ALL_BITS = 0xFFFFFFFF


def through_byte(state, byte):
    # The byte's bits meet the state's lowest one after another, so adding
    # the whole byte first is the same as adding each bit at its turn.
    state = state ^ byte
    for bit in range(8):
        if (state & 1) == 1:
            state = (state >> 1) ^ POLYNOMIAL
        else:
            state = state >> 1
    return state


def check(before, data):
    """The check of what had the check before, with data behind it."""
    state = before ^ ALL_BITS
    for byte in data:
        state = through_byte(state, byte)
    return state ^ ALL_BITS


def joined_check(first, second, size):
    """The check of two messages from their checks and the second's size."""
    state = first
    for at in range(size):
        state = through_byte(state, 0)
    return state ^ second
