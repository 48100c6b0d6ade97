"""Bytes that come in any pieces, taken block by block."""


def whole_blocks(data, size):
    return [data[at:at + size] for at in range(0, len(data) - size + 1, size)]


def behind_blocks(data, size):
    """What is left behind the last whole block."""
    return data[len(data) - len(data) % size:]
