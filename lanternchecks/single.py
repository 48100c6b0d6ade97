"""The calls that need nothing under way, with their refusals."""

from lanternchecks.blocks import whole_blocks
from lanternchecks.box import Box
from lanternchecks.cipher import (
    BLOCK, deciphered, enciphered, full_round, full_unround, last_round, last_unround, round_keys_of)
from lanternchecks.cyclic import ALL_BITS, check, joined_check
from lanternchecks.field128 import block_product
from lanternchecks.field64 import bytes_of, number_of, product
from lanternchecks.keyed import joined_sum
from lanternchecks.refusals import MOST_BYTES, OTHER_TAG, WRONG

FIELD_BYTES = 8
MOST_JOINED = 10000
KEY_SIZES = (16, 32)
NONCE_BYTES = 12
TAG_BYTES = 16

FULL_ROUND = 0
LAST_ROUND = 1
FULL_UNROUND = 2
LAST_UNROUND = 3
PRODUCT = 4


def with_text(text):
    """The answer of a call that went well and tells one text."""
    return [0, len(text)] + text


def are_field_rows(rows):
    return all([len(row) == FIELD_BYTES for row in rows])


def are_key_and_nonce(key, nonce):
    return len(key) in KEY_SIZES and len(nonce) == NONCE_BYTES


def crc(before, data):
    if before > ALL_BITS or len(data) > MOST_BYTES:
        return [WRONG]
    return [check(before, data)]


def crc_join(first, second, size):
    if first > ALL_BITS or second > ALL_BITS or size > MOST_JOINED:
        return [WRONG]
    return [joined_check(first, second, size)]


def field_mul(a, b):
    if not are_field_rows([a, b]):
        return [WRONG]
    return with_text(bytes_of(product(number_of(a), number_of(b))))


def sum_join(first_size, second_size, key, first, second):
    if not are_field_rows([key, first, second]):
        return [WRONG]
    whole = joined_sum(number_of(key), number_of(first), number_of(second), first_size, second_size)
    return with_text(bytes_of(whole))


def aes(back, key, data):
    if back > 1 or len(key) not in KEY_SIZES or len(data) % BLOCK != 0 or len(data) > MOST_BYTES:
        return [WRONG]
    round_keys = round_keys_of(key)
    found = []
    for block in whole_blocks(data, BLOCK):
        found.extend(enciphered(round_keys, block) if back == 0 else deciphered(round_keys, block))
    return with_text(found)


def step(which, block, key):
    if len(block) != BLOCK or len(key) != BLOCK or which > PRODUCT:
        return [WRONG]
    return with_text(after_step(which, block, key))


def after_step(which, block, key):
    if which == FULL_ROUND:
        return full_round(block, key)
    if which == LAST_ROUND:
        return last_round(block, key)
    if which == FULL_UNROUND:
        return full_unround(block, key)
    if which == LAST_UNROUND:
        return last_unround(block, key)
    return block_product(block, key)


def can_be_sealed(key, nonce, shown, data):
    return are_key_and_nonce(key, nonce) and len(shown) <= MOST_BYTES and len(data) <= MOST_BYTES


def seal(key, nonce, shown, data):
    if not can_be_sealed(key, nonce, shown, data):
        return [WRONG]
    box = Box(False, key, nonce)
    box.show(shown)
    sealed = box.put_through(data)
    tag = box.end()
    return with_text(sealed) + [len(tag)] + tag


def unseal(key, nonce, shown, data, tag):
    if not can_be_sealed(key, nonce, shown, data) or len(tag) != TAG_BYTES:
        return [WRONG]
    box = Box(True, key, nonce)
    box.show(shown)
    message = box.put_through(data)
    if box.end() != tag:
        return [OTHER_TAG]
    return with_text(message)
