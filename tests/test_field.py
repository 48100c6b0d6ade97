"""field_mul and the field of 2^64: promises 5 and 6."""

import random
import unittest

from lanternchecks.field64 import bytes_of, inverse, number_of, power, product
from tests.helper import (
    ZERO, ask, field_mul, model_power, model_product, one, pattern, row, sum_get, sum_join, sum_open, sum_put, text)

TOP = 2 ** 64 - 1
SAMPLES = [0, 1, 2, 3, 27, 0x1B << 32, 2 ** 32, 2 ** 63, TOP, 0x9E3779B97F4A7C15, 0x0123456789ABCDEF]


def times(a, b):
    answer = one(field_mul(row(a), row(b)))
    assert answer[:2] == [0, 8] and len(answer) == 10, answer
    return int.from_bytes(bytes(answer[2:]), "little")


class Examples(unittest.TestCase):
    def test_two_times_the_top_bit(self):
        self.assertEqual(one(field_mul(row(2), row(2 ** 63))), text(row(27)))

    def test_long_product(self):
        self.assertEqual(
            one(field_mul(row(0x0123456789ABCDEF), row(0xFEDCBA9876543210))), text(row(0x48827AB55D976FA0)))


class Products(unittest.TestCase):
    def setUp(self):
        chosen = random.Random(64)
        self.numbers = SAMPLES + [chosen.getrandbits(64) for turn in range(10)]

    def test_against_the_model(self):
        for a in self.numbers:
            for b in self.numbers:
                self.assertEqual(times(a, b), model_product(a, b))

    def test_each_bit(self):
        for i in range(64):
            for j in (0, 1, 31, 32, 60, 61, 62, 63):
                self.assertEqual(times(1 << i, 1 << j), model_product(1 << i, 1 << j))

    def test_any_order(self):
        for a in self.numbers:
            for b in self.numbers:
                self.assertEqual(times(a, b), times(b, a))
        for a, b, c in zip(self.numbers, self.numbers[3:], self.numbers[5:]):
            self.assertEqual(times(times(a, b), c), times(a, times(b, c)))
            self.assertEqual(times(a, b ^ c), times(a, b) ^ times(a, c))

    def test_one_and_nought(self):
        for a in self.numbers:
            self.assertEqual(times(a, 1), a)
            self.assertEqual(times(a, 0), 0)

    def test_inverse_by_products(self):
        # a^(2^64 - 2), by the call alone: the square of each power in turn.
        for a in (1, 2, 3, 2 ** 63, TOP, 0x9E3779B97F4A7C15):
            found, square = 1, a
            for turn in range(63):
                square = times(square, square)
                found = times(found, square)
            self.assertEqual(times(a, found), 1)
            self.assertEqual(inverse(a), found)

    def test_inverse(self):
        for a in self.numbers:
            if a != 0:
                self.assertEqual(times(a, inverse(a)), 1)
                self.assertEqual(inverse(inverse(a)), a)
        self.assertEqual(inverse(0), 0)

    def test_join_undoes_the_key(self):
        # With no bytes behind it a sum joined is multiplied by the inverse
        # and by the key again, so it comes back as it was.
        for key in self.numbers:
            for a in (0, 1, TOP, 0x0123456789ABCDEF):
                expected = a if key != 0 else 0
                self.assertEqual(one(sum_join(0, 0, row(key), row(a), ZERO)), text(row(expected)))

    def test_power(self):
        for base in SAMPLES:
            for exponent in (0, 1, 2, 3, 64, 2 ** 50, 2 ** 64 - 2):
                self.assertEqual(power(base, exponent), model_power(base, exponent))

    def test_bytes_and_back(self):
        for a in self.numbers:
            self.assertEqual(bytes_of(a), row(a))
            self.assertEqual(number_of(row(a)), a)
        self.assertEqual(product(2, 2 ** 63), 27)


class Refused(unittest.TestCase):
    def test_rows(self):
        for size in (0, 1, 7, 9, 16, 5000):
            self.assertEqual(one(field_mul(pattern(size), row(3))), [-1])
            self.assertEqual(one(field_mul(row(3), pattern(size))), [-1])
            self.assertEqual(one(field_mul(pattern(size), pattern(size))), [-1])
        self.assertEqual(one(field_mul(pattern(7), pattern(9))), [-1])
        self.assertEqual(one(field_mul(row(1), pattern(8))), text(pattern(8)))

    def test_goes_on_afterwards(self):
        told = ask(sum_open(row(5)), sum_put(b"lantern"), sum_get(), field_mul([1], row(2)),
                   field_mul(row(2), row(2)), sum_get())
        self.assertEqual(told[3:5], [[-1], text(row(4))])
        self.assertEqual(told[5], told[2])


if __name__ == "__main__":
    unittest.main()
