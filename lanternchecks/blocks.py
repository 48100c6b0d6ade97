"""Bytes that come in any pieces, taken block by block."""


def whole_blocks(data, size):
    return [data[at:at + size] for at in range(0, len(data) - size + 1, size)]


def behind_blocks(data, size):
    """What is left behind the last whole block."""
    return data[len(data) - len(data) % size:]


def filled_up(data, size):
    """The bytes with noughts behind them, up to whole blocks."""
    return data + [0] * ((size - len(data) % size) % size)


def added(first, second):
    """Bytes added without carries, place by place."""
    return [a ^ b for a, b in zip(first, second)]


def high_first(number, size):
    """So many of a number's lowest bytes, the highest of them first."""
    return [(number >> (8 * (size - 1 - at))) & 255 for at in range(size)]
