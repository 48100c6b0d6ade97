"""Whole lines: how calls and answers are written, and all calls mixed."""

import contextlib
import io
import random
import unittest

from lanternchecks.checks import answers
from tests.helper import (
    GOLDEN, ZERO, ask, crc, crc_join, field_mul, hash_open, hash_put, model_crc, model_crc_join, model_product,
    model_sum, model_sum_join, pattern, row, sum_get, sum_join, sum_open, sum_put, text)


class Written(unittest.TestCase):
    def test_numbers_one_behind_another(self):
        calls = [0, 0, 4, 119, 111, 114, 107, 4, 2, 8, 1, 0, 0, 0, 0, 0, 0, 0, 3, 0, 3, 2, 5, 0, 4, 8, 0, 7, 8, 1, 9]
        told = [1, 3461608461, 1, -9, 1, 0, 1, 0, 1, 2, 10, 0, 8, 7, 0, 0, 0, 0, 0, 0, 0, 1, -9, 1, 0, 1, 1]
        self.assertEqual(answers(calls), told)

    def test_product_and_join(self):
        two, top = [8, 2, 0, 0, 0, 0, 0, 0, 0], [8, 0, 0, 0, 0, 0, 0, 0, 128]
        self.assertEqual(answers([5] + two + top), [10, 0, 8, 27, 0, 0, 0, 0, 0, 0, 0])
        self.assertEqual(answers([6, 1, 0] + two + two + two), [10, 0, 8] + ZERO)
        self.assertEqual(answers([6, 1, 0] + two + two + [0]), [1, -1])

    def test_bytes_that_look_like_calls(self):
        self.assertEqual(ask(hash_open(), hash_put([4, 4, 7, 0, 8]), crc(0, [1, 2, 3]), hash_put([7])),
                         [[0], [5], [model_crc([1, 2, 3])], [6]])

    def test_longest_line(self):
        calls = [sum_open(row(3))] + [sum_put(pattern(70))] * 57 + [sum_get(), crc(0, pattern(4000))]
        self.assertEqual(len(calls), 60)
        told = ask(*calls)
        self.assertEqual(told[57], [3990])
        self.assertEqual(told[58], text(row(model_sum(3, pattern(70) * 57))))

    def test_most_numbers(self):
        told = ask(crc(0, pattern(5000)), sum_put(pattern(5000)), hash_put(pattern(5000)))
        self.assertEqual(told, [[-1], [-9], [-9]])


class NothingElse(unittest.TestCase):
    def line(self):
        calls = [sum_open(row(GOLDEN)), sum_put(pattern(21)), sum_get(), hash_open(), hash_put(pattern(70)),
                 field_mul(row(5), row(GOLDEN)), sum_join(8, 9, row(3), row(4), row(5)), crc(1, pattern(9)),
                 crc_join(1, 2, 3), sum_open([1]), sum_put(pattern(4000)), sum_get()]
        return [number for call in calls for number in call]

    def test_handed_in_is_the_same(self):
        calls = self.line()
        answers(calls)
        self.assertEqual(calls, self.line())

    def test_second_asking_answers_the_same(self):
        calls = self.line()
        first = answers(calls)
        kept = list(first)
        self.assertEqual(answers(calls), kept)
        self.assertEqual(answers(self.line()), kept)
        self.assertEqual(first, kept)

    def test_nothing_under_way_at_the_beginning(self):
        answers(self.line())
        self.assertEqual(ask(sum_put([]), sum_get(), hash_put([])), [[-9], [-9], [-9]])

    def test_answers_are_the_askers(self):
        calls = self.line()
        first = answers(calls)
        kept = list(first)
        first.clear()
        self.assertEqual(answers(calls), kept)

    def test_prints_nothing(self):
        shown = io.StringIO()
        with contextlib.redirect_stdout(shown), contextlib.redirect_stderr(shown):
            answers(self.line())
        self.assertEqual(shown.getvalue(), "")


class Mixed(unittest.TestCase):
    def test_sum_and_hash_apart(self):
        told = ask(sum_open(row(GOLDEN)), hash_put([1]), hash_open(), sum_put(b"lan"), hash_put(pattern(3999)),
                   sum_put(b"tern"), hash_put([1, 2]), sum_get(), hash_open(), sum_get(), hash_put([]))
        lantern = text(row(0x14FE8B43DF69798E))
        self.assertEqual(told, [[0], [-9], [0], [3], [3999], [7], [-7], lantern, [0], lantern, [0]])

    def test_refusals_left_out(self):
        """A line answers the same with its refused calls taken out."""
        for seed in range(60):
            calls = chosen_line(random.Random(seed))
            told = ask(*calls)
            good = [(call, answer) for call, answer in zip(calls, told) if answer[0] >= 0]
            if good:
                self.assertEqual(ask(*[call for call, answer in good]), [answer for call, answer in good])

    def test_against_the_model(self):
        for seed in range(150):
            calls = chosen_line(random.Random(1000 + seed))
            self.assertEqual(ask(*calls), Model().answers(calls), seed)


def chosen_row(chosen):
    size = chosen.choice([8] * 12 + [0, 7, 9])
    return chosen.choice([pattern(size, chosen.randrange(256)), [0] * size, [255] * size])


def chosen_data(chosen):
    size = chosen.choice([0, 1, 3, 7, 8, 9, 20, 63, 64, 65, 100, 100, 100, 1500, 4000, 4001])
    return pattern(size, chosen.randrange(256))


def chosen_call(chosen):
    before = chosen.choice([0, 1, chosen.getrandbits(32), 2 ** 32 - 1, 2 ** 32, 2 ** 53 - 1])
    size = chosen.choice([0, 8, 16, 4000, 7, 2 ** 53 - 8, chosen.getrandbits(53)])
    other_size = chosen.choice([0, 5, 8, 2 ** 53 - 1, chosen.getrandbits(53)])
    rows = [chosen_row(chosen) for turn in range(3)]
    return chosen.choice([
        lambda: crc(before, chosen_data(chosen)),
        lambda: crc_join(before, chosen.getrandbits(32), chosen.choice([0, 1, 50, 10000, 10001])),
        lambda: sum_open(rows[0]),
        lambda: sum_put(chosen_data(chosen)),
        lambda: sum_put(chosen_data(chosen)),
        sum_get,
        lambda: field_mul(rows[0], rows[1]),
        lambda: sum_join(size, other_size, rows[0], rows[1], rows[2]),
        hash_open,
        lambda: hash_put(chosen_data(chosen)),
        lambda: hash_put(chosen_data(chosen)),
    ])()


def chosen_line(chosen):
    """At most 60 calls and at most 16000 numbers."""
    calls = []
    room = 16000
    for turn in range(chosen.randrange(1, 61)):
        call = chosen_call(chosen)
        if len(call) <= room:
            calls.append(call)
            room -= len(call)
    return calls


def number(data):
    return int.from_bytes(bytes(data), "little")


class Model:
    """Keeps each message whole and reckons from its beginning."""

    def __init__(self):
        self.key = None
        self.message = None
        self.hashed = None

    def answers(self, calls):
        return [self.answer(call) for call in calls]

    def answer(self, call):
        named = [self.crc, self.crc_join, self.sum_open, self.sum_put, self.sum_get, self.field_mul, self.sum_join,
                 self.hash_open, self.hash_put]
        return named[call[0]](call[1:])

    def rows(self, rest):
        found = []
        while rest:
            found.append(rest[1:1 + rest[0]])
            rest = rest[1 + rest[0]:]
        return found

    def crc(self, rest):
        if rest[0] >= 2 ** 32 or rest[1] > 4000:
            return [-1]
        return [model_crc(rest[2:], rest[0])]

    def crc_join(self, rest):
        if max(rest[:2]) >= 2 ** 32 or rest[2] > 10000:
            return [-1]
        return [model_crc_join(*rest)]

    def sum_open(self, rest):
        if rest[0] != 8:
            return [-1]
        self.key, self.message = number(rest[1:]), []
        return [0]

    def sum_put(self, rest):
        if self.message is None:
            return [-9]
        if len(self.message) + rest[0] > 4000:
            return [-7]
        self.message = self.message + rest[1:]
        return [len(self.message)]

    def sum_get(self, rest):
        if self.message is None:
            return [-9]
        return text(row(model_sum(self.key, self.message)))

    def field_mul(self, rest):
        rows = self.rows(rest)
        if [len(found) for found in rows] != [8, 8]:
            return [-1]
        return text(row(model_product(number(rows[0]), number(rows[1]))))

    def sum_join(self, rest):
        rows = self.rows(rest[2:])
        if [len(found) for found in rows] != [8, 8, 8]:
            return [-1]
        return text(row(model_sum_join(rest[0], rest[1], *[number(found) for found in rows])))

    def hash_open(self, rest):
        self.hashed = 0
        return [0]

    def hash_put(self, rest):
        if self.hashed is None:
            return [-9]
        if self.hashed + rest[0] > 4000:
            return [-7]
        self.hashed += rest[0]
        return [self.hashed]


if __name__ == "__main__":
    unittest.main()
