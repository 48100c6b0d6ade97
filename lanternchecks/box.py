"""Sealing and opening: AES counted on, with a tag over the field of 2^128."""

from lanternchecks.blocks import added, filled_up, high_first, whole_blocks
from lanternchecks.cipher import BLOCK, enciphered, round_keys_of
from lanternchecks.field128 import block_product

TAG_COUNTER = 1
FIRST_COUNTER = 2


class Box:
    """A message being sealed or opened: what is shown, then what is put."""

    def __init__(self, opens, key, nonce):
        self.opens = opens
        self.round_keys = round_keys_of(key)
        self.nonce = nonce
        self.shown = []
        self.sealed = []
        self.has_put = False
        self.ended = False

    def show(self, data):
        self.shown = self.shown + data

    def put_through(self, data):
        """These bytes, sealed or opened."""
        turned = added(data, self.stream(len(self.sealed), len(data)))
        # The tag is over the sealed bytes whichever way the box goes.
        self.sealed = self.sealed + (data if self.opens else turned)
        self.has_put = True
        return turned

    def end(self):
        """The box's tag; nothing may follow."""
        self.ended = True
        return added(self.carried_over_all(), self.counter_ciphered(TAG_COUNTER))

    def stream(self, start, size):
        """So many bytes of the ciphered counters, from a place in the message on."""
        first = start // BLOCK
        behind = (start + size + BLOCK - 1) // BLOCK
        ciphered = []
        for at in range(first, behind):
            ciphered.extend(self.counter_ciphered(FIRST_COUNTER + at))
        skipped = start - first * BLOCK
        return ciphered[skipped:skipped + size]

    def counter_ciphered(self, number):
        return enciphered(self.round_keys, self.nonce + high_first(number, 4))

    def carried_over_all(self):
        factor = enciphered(self.round_keys, [0] * BLOCK)
        sizes = high_first(8 * len(self.shown), 8) + high_first(8 * len(self.sealed), 8)
        whole = filled_up(self.shown, BLOCK) + filled_up(self.sealed, BLOCK) + sizes
        carried = [0] * BLOCK
        for block in whole_blocks(whole, BLOCK):
            carried = block_product(added(carried, block), factor)
        return carried
