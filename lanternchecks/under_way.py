"""One line's calls on what is under way, with their refusals."""

from lanternchecks.box import Box
from lanternchecks.digest import Digest
from lanternchecks.field64 import bytes_of, number_of
from lanternchecks.keyed import KeyedSum
from lanternchecks.refusals import MOST_BYTES, NOT_BEGUN, OTHER_TAG, OUT_OF_TURN, TOO_MUCH, WRONG
from lanternchecks.single import TAG_BYTES, are_field_rows, are_key_and_nonce, with_text


def put_behind(target, data):
    """Put data behind what a sum or hash has; None is one not begun."""
    if target is None:
        return [NOT_BEGUN]
    if target.size + len(data) > MOST_BYTES:
        return [TOO_MUCH]
    target.put(data)
    return [target.size]


def tag_answer(opens, found, handed_in):
    if not opens:
        return with_text(found)
    if found == handed_in:
        return [0]
    return [OTHER_TAG]


class Line:
    """One sum, one hash and one box can be under way; None where it is not begun."""

    def __init__(self):
        self.keyed = None
        self.digest = None
        self.box = None

    def sum_open(self, key):
        if not are_field_rows([key]):
            return [WRONG]
        self.keyed = KeyedSum(number_of(key))
        return [0]

    def sum_put(self, data):
        return put_behind(self.keyed, data)

    def sum_get(self):
        if self.keyed is None:
            return [NOT_BEGUN]
        return with_text(bytes_of(self.keyed.total()))

    def hash_open(self):
        self.digest = Digest()
        return [0]

    def hash_put(self, data):
        return put_behind(self.digest, data)

    def hash_get(self):
        if self.digest is None:
            return [NOT_BEGUN]
        return with_text(self.digest.hash_so_far())

    def box_open(self, way, key, nonce):
        if way > 1 or not are_key_and_nonce(key, nonce):
            return [WRONG]
        self.box = Box(way == 1, key, nonce)
        return [0]

    def box_shown(self, data):
        box = self.box
        if box is None:
            return [NOT_BEGUN]
        if box.ended or box.has_put:
            return [OUT_OF_TURN]
        if len(box.shown) + len(data) > MOST_BYTES:
            return [TOO_MUCH]
        box.show(data)
        return [0]

    def box_put(self, data):
        box = self.box
        if box is None:
            return [NOT_BEGUN]
        if box.ended:
            return [OUT_OF_TURN]
        if len(box.sealed) + len(data) > MOST_BYTES:
            return [TOO_MUCH]
        return with_text(box.put_through(data))

    def box_tag(self, tag):
        box = self.box
        if box is None:
            return [NOT_BEGUN]
        if box.ended:
            return [OUT_OF_TURN]
        if len(tag) != (TAG_BYTES if box.opens else 0):
            return [WRONG]
        return tag_answer(box.opens, box.end(), tag)
