"""The sum of a message by a key over the field of 2^64."""

from lanternchecks.blocks import behind_blocks, whole_blocks
from lanternchecks.field64 import inverse, number_of, power, product

BLOCK = 8


class KeyedSum:
    """A sum under way: whole blocks are taken in, the rest waits."""

    def __init__(self, key):
        self.key = key
        self.size = 0
        self.carried = 0
        self.rest = []

    def put(self, data):
        waiting = self.rest + data
        for block in whole_blocks(waiting, BLOCK):
            self.carried = product(self.carried ^ number_of(block), self.key)
        self.rest = behind_blocks(waiting, BLOCK)
        self.size = self.size + len(data)

    def total(self):
        # The rest is ended on a copy, as more bytes may follow. Noughts
        # behind it need no writing: the lowest byte stands first.
        carried = self.carried
        if len(self.rest) > 0:
            carried = product(carried ^ number_of(self.rest), self.key)
        return product(carried ^ self.size, self.key)


def joined_sum(key, first, second, first_size, second_size):
    """The sum of two messages from their sums and sizes."""
    if first_size % BLOCK != 0 or key == 0:
        return 0
    back = inverse(key)
    first_carried = product(first, back) ^ first_size
    second_carried = product(second, back) ^ second_size
    steps = (second_size + BLOCK - 1) // BLOCK
    carried = product(first_carried, power(key, steps)) ^ second_carried
    # The sizes add up as numbers do: it is the whole's number of bytes.
    return product(carried ^ (first_size + second_size), key)
