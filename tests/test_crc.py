"""crc and crc_join: promises 1, 2 and 6."""

import unittest

from tests.helper import ask, crc, crc_join, cuts, model_crc, model_crc_join, one, pattern

MOST = 2 ** 53 - 1


class Examples(unittest.TestCase):
    def test_digits(self):
        self.assertEqual(one(crc(0, b"123456789")), [3808858755])

    def test_lantern_work(self):
        self.assertEqual(
            ask(crc(0, b"lantern"), crc(0, b"work"), crc(0, b"lanternwork"),
                crc_join(2902395888, 3461608461, 4), crc(2902395888, b"work")),
            [[2902395888], [3461608461], [2541774624], [2541774624], [2541774624]])


class Check(unittest.TestCase):
    def test_no_bytes(self):
        for before in (0, 1, 2902395888, 2 ** 32 - 1):
            self.assertEqual(one(crc(before, [])), [before])

    def test_known_values(self):
        # From RFC 3720, B.4.
        self.assertEqual(one(crc(0, [0] * 32)), [0x8A9136AA])
        self.assertEqual(one(crc(0, [255] * 32)), [0x62A8AB43])
        self.assertEqual(one(crc(0, range(32))), [0x46DD794E])
        self.assertEqual(one(crc(0, range(31, -1, -1))), [0x113FDB5C])

    def test_every_byte(self):
        for byte in range(256):
            self.assertEqual(one(crc(0, [byte])), [model_crc([byte])])

    def test_against_the_model(self):
        for size in (1, 2, 3, 7, 8, 9, 63, 64, 65, 300):
            for before in (0, 1, 0x80000000, 0xDEADBEEF, 2 ** 32 - 1):
                data = pattern(size, before)
                self.assertEqual(one(crc(before, data)), [model_crc(data, before)])

    def test_cut_anywhere(self):
        data = pattern(200)
        whole = one(crc(0, data))[0]
        for cut in range(201):
            first = one(crc(0, data[:cut]))[0]
            self.assertEqual(one(crc(first, data[cut:])), [whole])

    def test_many_pieces(self):
        data = pattern(130)
        for size in (1, 2, 3, 5, 8, 13, 64):
            before = 0
            for piece in cuts(data, size):
                before = one(crc(before, piece))[0]
            self.assertEqual(before, model_crc(data))


class Joined(unittest.TestCase):
    def test_is_the_whole(self):
        for first_size in (0, 1, 3, 8, 100):
            for second_size in (0, 1, 2, 7, 8, 9, 255, 256, 1000):
                first = pattern(first_size, 2)
                second = pattern(second_size, 3)
                checks = ask(crc(0, first), crc(0, second), crc(0, first + second))
                whole = one(crc_join(checks[0][0], checks[1][0], second_size))
                self.assertEqual(whole, checks[2])

    def test_longest_messages(self):
        first, second = pattern(4000, 4), pattern(4000, 5)
        a, b = [answer[0] for answer in ask(crc(0, first), crc(0, second))]
        self.assertEqual(ask(crc_join(a, b, 4000), crc(a, second)), [[model_crc(first + second)]] * 2)

    def test_any_checks(self):
        for a in (0, 1, 0x12345678, 2 ** 32 - 1):
            for b in (0, 1, 0x9ABCDEF0, 2 ** 32 - 1):
                for n in (0, 1, 5, 4000, 4001, 10000):
                    self.assertEqual(one(crc_join(a, b, n)), [model_crc_join(a, b, n)])


class Refused(unittest.TestCase):
    def test_before(self):
        self.assertEqual(one(crc(2 ** 32 - 1, b"work")), [model_crc(b"work", 2 ** 32 - 1)])
        for before in (2 ** 32, 2 ** 32 + 1, 2 ** 33, MOST):
            self.assertEqual(one(crc(before, b"work")), [-1])
            self.assertEqual(one(crc(before, [])), [-1])

    def test_bytes(self):
        longest = pattern(4000)
        self.assertEqual(one(crc(7, longest)), [model_crc(longest, 7)])
        for size in (4001, 5000):
            self.assertEqual(one(crc(0, pattern(size))), [-1])
            self.assertEqual(one(crc(2 ** 32, pattern(size))), [-1])

    def test_joined(self):
        most = 2 ** 32 - 1
        self.assertEqual(one(crc_join(most, most, 3)), [model_crc_join(most, most, 3)])
        self.assertEqual(one(crc_join(1, 2, 10000)), [model_crc_join(1, 2, 10000)])
        for call in ((2 ** 32, 0, 0), (0, 2 ** 32, 0), (0, 0, 10001), (MOST, 0, 0), (0, MOST, 0), (0, 0, MOST),
                     (MOST, MOST, MOST)):
            self.assertEqual(one(crc_join(*call)), [-1])

    def test_goes_on_afterwards(self):
        self.assertEqual(
            ask(crc(2 ** 32, b"x"), crc(0, b"123456789"), crc(0, [1] * 4001), crc_join(0, 0, 10001),
                crc_join(2902395888, 3461608461, 4)),
            [[-1], [3808858755], [-1], [-1], [2541774624]])


if __name__ == "__main__":
    unittest.main()
