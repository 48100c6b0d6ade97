"""Whole lines: how calls and answers are written, and all calls mixed."""

import contextlib
import functools
import io
import random
import unittest

from lanternchecks.checks import answers
from tests.helper import (
    GOLDEN, ZERO, aes, ask, both, box_open, box_put, box_shown, box_tag, crc, crc_join, field_mul, hash_get, hash_open,
    hash_put, model_aes, model_crc, model_crc_join, model_hash, model_product, model_seal, model_step, model_stream,
    model_sum, model_sum_join, model_tag, pattern, row, seal, step, sum_get, sum_join, sum_open, sum_put, text, texts,
    unseal)

LINES = range(150)


class Written(unittest.TestCase):
    def test_numbers_one_behind_another(self):
        calls = [0, 0, 4, 119, 111, 114, 107, 4, 2, 8, 1, 0, 0, 0, 0, 0, 0, 0, 3, 0, 3, 2, 5, 0, 4, 8, 0, 7, 8, 1, 9]
        told = [1, 3461608461, 1, -9, 1, 0, 1, 0, 1, 2, 10, 0, 8, 7, 0, 0, 0, 0, 0, 0, 0, 1, -9, 1, 0, 1, 1]
        self.assertEqual(answers(calls), told)

    def test_product_and_join(self):
        two, top = [8, 2, 0, 0, 0, 0, 0, 0, 0], [8, 0, 0, 0, 0, 0, 0, 0, 128]
        self.assertEqual(answers([5] + two + top), [10, 0, 8, 27, 0, 0, 0, 0, 0, 0, 0])
        self.assertEqual(answers([6, 1, 0] + two + two + two), [10, 0, 8] + ZERO)
        self.assertEqual(answers([6, 1, 0] + two + two + [0]), [1, -1])

    def test_texts_of_the_later_calls(self):
        key, nonce, block = [16] + [1] * 16, [12] + [2] * 12, [16] + [3] * 16
        sealed, tag = model_seal([1] * 16, [2] * 12, [5], [6, 7])
        calls = [7, 9, 10, 0] + key + block + [11, 4] + block + key + [12, 0] + key + nonce + [13, 1, 5, 14, 2, 6, 7]
        calls += [15, 0, 16] + key + nonce + [1, 5, 2, 6, 7, 17] + key + nonce + [1, 5, 2] + sealed + [16] + tag
        told = [1, 0, 34, 0, 32] + model_hash([]) + [18, 0, 16] + model_aes(0, [1] * 16, [3] * 16)
        told += [18, 0, 16] + model_step(4, [3] * 16, [1] * 16) + [1, 0, 1, 0, 4, 0, 2] + sealed + [18, 0, 16] + tag
        told += [21, 0, 2] + sealed + [16] + tag + [4, 0, 2, 6, 7]
        self.assertEqual(answers(calls), told)

    def test_opening_box_tells_no_text_at_its_end(self):
        key, nonce = [16] + [1] * 16, [12] + [2] * 12
        tag = model_tag([1] * 16, [2] * 12, [], [])
        begun = [12, 1] + key + nonce
        self.assertEqual(answers(begun + [15, 16] + tag + [15, 0] + begun + [15, 16] + tag[1:] + [0]),
                         [1, 0, 1, 0, 1, -3, 1, 0, 1, -6])

    def test_bytes_that_look_like_calls(self):
        self.assertEqual(ask(hash_open(), hash_put([4, 4, 7, 0, 8]), crc(0, [1, 2, 3]), hash_put([7])),
                         [[0], [5], [model_crc([1, 2, 3])], [6]])

    def test_longest_line(self):
        calls = [sum_open(row(3))] + [sum_put(pattern(70))] * 57 + [sum_get(), crc(0, pattern(4000))]
        self.assertEqual(len(calls), 60)
        told = ask(*calls)
        self.assertEqual(told[57], [3990])
        self.assertEqual(told[58], text(row(model_sum(3, pattern(70) * 57))))

    def test_most_numbers(self):
        told = ask(crc(0, pattern(5000)), sum_put(pattern(5000)), hash_put(pattern(5000)))
        self.assertEqual(told, [[-1], [-9], [-9]])
        told = ask(unseal([1] * 32, [2] * 12, pattern(5000), pattern(5000), pattern(5000)), box_put([1]), hash_get())
        self.assertEqual(told, [[-1], [-9], [-9]])
        told = ask(aes(0, pattern(5000), pattern(5000)), step(0, pattern(16), pattern(5000)), hash_get())
        self.assertEqual(told, [[-1], [-1], [-9]])


class NothingElse(unittest.TestCase):
    def line(self):
        calls = [sum_open(row(GOLDEN)), sum_put(pattern(21)), sum_get(), hash_open(), hash_put(pattern(70)),
                 field_mul(row(5), row(GOLDEN)), sum_join(8, 9, row(3), row(4), row(5)), crc(1, pattern(9)),
                 crc_join(1, 2, 3), sum_open([1]), sum_put(pattern(4000)), sum_get(), hash_get(),
                 aes(0, pattern(32), pattern(48)), aes(1, pattern(16), pattern(48)),
                 *[step(which, pattern(16), pattern(16, 2)) for which in range(6)],
                 box_open(1, pattern(16), pattern(12)), box_shown(pattern(20)), box_put(pattern(40)),
                 box_tag(pattern(16)), box_open(0, pattern(32), pattern(12)), box_shown(pattern(20)),
                 box_put(pattern(40)), seal(pattern(16), pattern(12), pattern(30), pattern(31)),
                 unseal(pattern(16), pattern(12), pattern(30), pattern(31), pattern(16))]
        return [number for call in calls for number in call]

    def test_handed_in_is_the_same(self):
        calls = self.line()
        answers(calls)
        self.assertEqual(calls, self.line())

    def test_second_asking_answers_the_same(self):
        calls = self.line()
        first = answers(calls)
        kept = list(first)
        self.assertEqual(answers(calls), kept)
        self.assertEqual(answers(self.line()), kept)
        self.assertEqual(first, kept)

    def test_nothing_under_way_at_the_beginning(self):
        answers(self.line())
        self.assertEqual(ask(sum_put([]), sum_get(), hash_put([]), hash_get(), box_shown([]), box_put([]), box_tag()),
                         [[-9]] * 7)

    def test_answers_are_the_askers(self):
        calls = self.line()
        first = answers(calls)
        kept = list(first)
        first.clear()
        self.assertEqual(answers(calls), kept)

    def test_prints_nothing(self):
        shown = io.StringIO()
        with contextlib.redirect_stdout(shown), contextlib.redirect_stderr(shown):
            answers(self.line())
        self.assertEqual(shown.getvalue(), "")


class Mixed(unittest.TestCase):
    def test_sum_and_hash_apart(self):
        told = ask(sum_open(row(GOLDEN)), hash_put([1]), hash_open(), sum_put(b"lan"), hash_put(pattern(3999)),
                   sum_put(b"tern"), hash_put([1, 2]), sum_get(), hash_open(), sum_get(), hash_put([]))
        lantern = text(row(0x14FE8B43DF69798E))
        self.assertEqual(told, [[0], [-9], [0], [3], [3999], [7], [-7], lantern, [0], lantern, [0]])

    def test_all_three_apart(self):
        sealed, tag = model_seal(pattern(16), pattern(12), [], b"lantern")
        told = ask(box_open(0, pattern(16), pattern(12)), hash_open(), sum_open(row(GOLDEN)), box_put(b"lan"),
                   hash_put(b"lan"), sum_put(b"lan"), box_put(b"tern"), hash_put(b"tern"), sum_put(b"tern"), box_tag(),
                   hash_get(), sum_get(), box_put([]), hash_put([]), sum_put([]), hash_open(), box_tag(), sum_get())
        lantern = text(row(0x14FE8B43DF69798E))
        self.assertEqual(told, [[0], [0], [0], text(sealed[:3]), [3], [3], text(sealed[3:]), [7], [7], text(tag),
                                text(model_hash(b"lantern")), lantern, [-3], [7], [7], [0], [-3], lantern])

    def test_refusals_left_out(self):
        """A line answers the same with its refused calls taken out."""
        for seed in LINES:
            calls = chosen_line(seed)
            told = ask(*calls)
            # -6 tells of a tag that isn't right, and a box is ended by it.
            good = [(call, answer) for call, answer in zip(calls, told) if answer[0] >= 0 or answer == [-6]]
            if good:
                self.assertEqual(ask(*[call for call, answer in good]), [answer for call, answer in good])

    def test_against_the_model(self):
        for seed in LINES:
            calls = chosen_line(seed)
            self.assertEqual(ask(*calls), Model().answers(calls), seed)

    def test_every_answer_is_met(self):
        """The lines chosen here come to each call's answers and refusals."""
        met = set()
        for seed in LINES:
            calls = chosen_line(seed)
            met.update((call[0], min(answer[0], 0)) for call, answer in zip(calls, ask(*calls)))
        wanted = {0: (0, -1), 1: (0, -1), 2: (0, -1), 3: (0, -7, -9), 4: (0, -9), 5: (0, -1), 6: (0, -1), 7: (0,),
                  8: (0, -7, -9), 9: (0, -9), 10: (0, -1), 11: (0, -1), 12: (0, -1), 13: (0, -9, -3, -7),
                  14: (0, -9, -3, -7), 15: (0, -6, -9, -3, -1), 16: (0, -1), 17: (0, -6, -1)}
        self.assertEqual(met, {(call, number) for call, numbers in wanted.items() for number in numbers})


def chosen_row(chosen):
    size = chosen.choice([8] * 12 + [0, 7, 9])
    return chosen.choice([pattern(size, chosen.randrange(256)), [0] * size, [255] * size])


def chosen_data(chosen):
    size = chosen.choice([0, 1, 3, 7, 8, 9, 20, 63, 64, 65, 100, 100, 100, 1500, 4000, 4001])
    return pattern(size, chosen.randrange(256))


def chosen_of(chosen, *sizes):
    """A row of the first size mostly, of one of the others now and then."""
    size = sizes[0] if chosen.random() < 0.9 else chosen.choice(sizes[1:])
    return pattern(size, chosen.randrange(256))


def chosen_key(chosen):
    return chosen_of(chosen, chosen.choice([16, 32]), 0, 15, 17, 31, 33)


def chosen_checks(chosen):
    before = chosen.choice([0, 1, chosen.getrandbits(32), 2 ** 32 - 1, 2 ** 32, 2 ** 53 - 1])
    size = chosen.choice([0, 8, 16, 4000, 7, 2 ** 53 - 8, chosen.getrandbits(53)])
    other_size = chosen.choice([0, 5, 8, 2 ** 53 - 1, chosen.getrandbits(53)])
    rows = [chosen_row(chosen) for turn in range(3)]
    return chosen.choice([
        lambda: crc(before, chosen_data(chosen)),
        lambda: crc_join(before, chosen.getrandbits(32), chosen.choice([0, 1, 50, 10000, 10001])),
        lambda: sum_open(rows[0]),
        lambda: sum_put(chosen_data(chosen)),
        lambda: sum_put(chosen_data(chosen)),
        sum_get,
        lambda: field_mul(rows[0], rows[1]),
        lambda: sum_join(size, other_size, rows[0], rows[1], rows[2]),
        hash_open,
        lambda: hash_put(chosen_data(chosen)),
        lambda: hash_put(chosen_data(chosen)),
        hash_get,
    ])()


def chosen_single_cipher(chosen):
    number = chosen.choice([0, 0, 1, 1, 2, 3, 4, 5, 2 ** 53 - 1])
    key, nonce = chosen_key(chosen), chosen_of(chosen, 12, 0, 11, 13)
    shown, data = chosen_data(chosen), chosen_data(chosen)

    def chosen_unseal():
        if chosen.random() < 0.5 and len(key) in (16, 32) and len(nonce) == 12:
            return unseal(key, nonce, shown, data, model_tag(key, nonce, shown, data))
        return unseal(key, nonce, shown, data, chosen_of(chosen, 16, 0, 15, 17))

    return chosen.choice([
        lambda: aes(number, key, chosen_of(chosen, 16 * chosen.randrange(6), 1, 15, 17, 4000, 4016)),
        lambda: step(number, chosen_of(chosen, 16, 0, 15, 17), chosen_of(chosen, 16, 0, 15, 17)),
        lambda: seal(key, nonce, shown, data),
        chosen_unseal,
    ])()


def chosen_box(chosen, model):
    way = chosen.choice([0, 0, 1, 1, 2, 2 ** 53 - 1])

    def chosen_tag():
        right = model.right_tag() if chosen.random() < 0.5 else pattern(16)
        return box_tag(chosen.choice([[], [], right, right, right[1:], right + [0]]))

    return chosen.choice([
        lambda: box_open(way, chosen_key(chosen), chosen_of(chosen, 12, 0, 11, 13)),
        lambda: box_open(way, chosen_key(chosen), chosen_of(chosen, 12, 0, 11, 13)),
        lambda: box_shown(chosen_data(chosen)),
        lambda: box_shown(chosen_data(chosen)),
        lambda: box_put(chosen_data(chosen)),
        lambda: box_put(chosen_data(chosen)),
        chosen_tag,
    ])()


def chosen_call(chosen, model):
    part = chosen.randrange(5)
    if part < 2:
        return chosen_checks(chosen)
    if part < 3:
        return chosen_single_cipher(chosen)
    return chosen_box(chosen, model)


@functools.lru_cache(maxsize=None)
def chosen_line(seed):
    """At most 60 calls and at most 16000 numbers."""
    chosen = random.Random(seed)
    calls = []
    room = 16000
    # What is under way is followed by the model, for tags that are right.
    model = Model()
    for turn in range(chosen.randrange(1, 61)):
        call = chosen_call(chosen, model)
        if len(call) <= room:
            calls.append(call)
            room -= len(call)
            if 12 <= call[0] <= 15:
                model.answer(call)
    return calls


def number(data):
    return int.from_bytes(bytes(data), "little")


class Model:
    """Keeps each message whole and reckons from its beginning."""

    def __init__(self):
        self.key = None
        self.message = None
        self.hashed = None
        self.box = None

    def answers(self, calls):
        return [self.answer(call) for call in calls]

    def answer(self, call):
        named = [self.crc, self.crc_join, self.sum_open, self.sum_put, self.sum_get, self.field_mul, self.sum_join,
                 self.hash_open, self.hash_put, self.hash_get, self.aes, self.step, self.box_open, self.box_shown,
                 self.box_put, self.box_tag, self.seal, self.unseal]
        return named[call[0]](call[1:])

    def rows(self, rest):
        found = []
        while rest:
            found.append(rest[1:1 + rest[0]])
            rest = rest[1 + rest[0]:]
        return found

    def crc(self, rest):
        if rest[0] >= 2 ** 32 or rest[1] > 4000:
            return [-1]
        return [model_crc(rest[2:], rest[0])]

    def crc_join(self, rest):
        if max(rest[:2]) >= 2 ** 32 or rest[2] > 10000:
            return [-1]
        return [model_crc_join(*rest)]

    def sum_open(self, rest):
        if rest[0] != 8:
            return [-1]
        self.key, self.message = number(rest[1:]), []
        return [0]

    def sum_put(self, rest):
        if self.message is None:
            return [-9]
        if len(self.message) + rest[0] > 4000:
            return [-7]
        self.message = self.message + rest[1:]
        return [len(self.message)]

    def sum_get(self, rest):
        if self.message is None:
            return [-9]
        return text(row(model_sum(self.key, self.message)))

    def field_mul(self, rest):
        rows = self.rows(rest)
        if [len(found) for found in rows] != [8, 8]:
            return [-1]
        return text(row(model_product(number(rows[0]), number(rows[1]))))

    def sum_join(self, rest):
        rows = self.rows(rest[2:])
        if [len(found) for found in rows] != [8, 8, 8]:
            return [-1]
        return text(row(model_sum_join(rest[0], rest[1], *[number(found) for found in rows])))

    def hash_open(self, rest):
        self.hashed = []
        return [0]

    def hash_put(self, rest):
        if self.hashed is None:
            return [-9]
        if len(self.hashed) + rest[0] > 4000:
            return [-7]
        self.hashed = self.hashed + rest[1:]
        return [len(self.hashed)]

    def hash_get(self, rest):
        return [-9] if self.hashed is None else text(model_hash(self.hashed))

    def aes(self, rest):
        key, data = self.rows(rest[1:])
        if rest[0] > 1 or len(key) not in (16, 32) or len(data) % 16 or len(data) > 4000:
            return [-1]
        return text(model_aes(rest[0], key, data))

    def step(self, rest):
        block, key = self.rows(rest[1:])
        if rest[0] > 4 or len(block) != 16 or len(key) != 16:
            return [-1]
        return text(model_step(rest[0], block, key))

    def right_tag(self):
        """The tag of what is under way, of sixteen noughts where nothing is."""
        if self.box is None:
            return [0] * 16
        return model_tag(self.box["key"], self.box["nonce"], self.box["shown"], self.box["sealed"])

    def box_open(self, rest):
        key, nonce = self.rows(rest[1:])
        if rest[0] > 1 or len(key) not in (16, 32) or len(nonce) != 12:
            return [-1]
        self.box = {"way": rest[0], "key": key, "nonce": nonce, "shown": [], "sealed": [], "state": "shows"}
        return [0]

    def box_shown(self, rest):
        if self.box is None:
            return [-9]
        if self.box["state"] != "shows":
            return [-3]
        if len(self.box["shown"]) + rest[0] > 4000:
            return [-7]
        self.box["shown"] += rest[1:]
        return [0]

    def box_put(self, rest):
        if self.box is None:
            return [-9]
        if self.box["state"] == "ended":
            return [-3]
        start, end = len(self.box["sealed"]), len(self.box["sealed"]) + rest[0]
        if end > 4000:
            return [-7]
        turned = both(rest[1:], model_stream(self.box["key"], self.box["nonce"], end)[start:])
        self.box["sealed"] += turned if self.box["way"] == 0 else rest[1:]
        self.box["state"] = "puts"
        return text(turned)

    def box_tag(self, rest):
        if self.box is None:
            return [-9]
        if self.box["state"] == "ended":
            return [-3]
        if rest[0] != 16 * self.box["way"]:
            return [-1]
        self.box["state"] = "ended"
        if self.box["way"] == 0:
            return text(self.right_tag())
        return [0] if rest[1:] == self.right_tag() else [-6]

    def seal(self, rest):
        key, nonce, shown, data = self.rows(rest)
        if len(key) not in (16, 32) or len(nonce) != 12 or len(shown) > 4000 or len(data) > 4000:
            return [-1]
        return texts(*model_seal(key, nonce, shown, data))

    def unseal(self, rest):
        key, nonce, shown, data, tag = self.rows(rest)
        if len(tag) != 16 or self.seal(rest[:-17]) == [-1]:
            return [-1]
        if model_tag(key, nonce, shown, data) != tag:
            return [-6]
        return text(both(data, model_stream(key, nonce, len(data))))


if __name__ == "__main__":
    unittest.main()
