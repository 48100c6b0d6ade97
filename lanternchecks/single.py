"""The calls that need nothing under way, with their refusals."""

from lanternchecks.cyclic import ALL_BITS, check, joined_check
from lanternchecks.field64 import bytes_of, number_of, product
from lanternchecks.keyed import joined_sum
from lanternchecks.refusals import MOST_BYTES, WRONG

FIELD_BYTES = 8
MOST_JOINED = 10000


def with_text(text):
    """The answer of a call that went well and tells one text."""
    return [0, len(text)] + text


def are_field_rows(rows):
    return all([len(row) == FIELD_BYTES for row in rows])


def crc(before, data):
    if before > ALL_BITS or len(data) > MOST_BYTES:
        return [WRONG]
    return [check(before, data)]


def crc_join(first, second, size):
    if first > ALL_BITS or second > ALL_BITS or size > MOST_JOINED:
        return [WRONG]
    return [joined_check(first, second, size)]


def field_mul(a, b):
    if not are_field_rows([a, b]):
        return [WRONG]
    return with_text(bytes_of(product(number_of(a), number_of(b))))


def sum_join(first_size, second_size, key, first, second):
    if not are_field_rows([key, first, second]):
        return [WRONG]
    whole = joined_sum(number_of(key), number_of(first), number_of(second), first_size, second_size)
    return with_text(bytes_of(whole))
