"""One line's calls on what is under way, with their refusals."""

from lanternchecks.digest import Digest
from lanternchecks.field64 import bytes_of, number_of
from lanternchecks.keyed import KeyedSum
from lanternchecks.refusals import MOST_BYTES, NOT_BEGUN, TOO_MUCH, WRONG
from lanternchecks.single import are_field_rows, with_text


def put_behind(target, data):
    """Put data behind what a sum or hash has; None is one not begun."""
    if target is None:
        return [NOT_BEGUN]
    if target.size + len(data) > MOST_BYTES:
        return [TOO_MUCH]
    target.put(data)
    return [target.size]


class Line:
    """One sum and one hash can be under way; None where it is not begun."""

    def __init__(self):
        self.keyed = None
        self.digest = None

    def sum_open(self, key):
        if not are_field_rows([key]):
            return [WRONG]
        self.keyed = KeyedSum(number_of(key))
        return [0]

    def sum_put(self, data):
        return put_behind(self.keyed, data)

    def sum_get(self):
        if self.keyed is None:
            return [NOT_BEGUN]
        return with_text(bytes_of(self.keyed.total()))

    def hash_open(self):
        self.digest = Digest()
        return [0]

    def hash_put(self, data):
        return put_behind(self.digest, data)
