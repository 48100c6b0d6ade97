"""hash_open and hash_put: promises 1 and 6."""

import hashlib
import unittest

from lanternchecks.digest import Digest
from tests.helper import ask, cuts, hash_open, hash_put, one, pattern


def filled_up(data):
    """The message with the end that FIPS 180-4 puts behind it."""
    noughts = [0] * ((55 - len(data)) % 64)
    return data + [128] + noughts + list((8 * len(data)).to_bytes(8, "big"))


def words_of(data):
    told = hashlib.sha256(bytes(data)).digest()
    return [int.from_bytes(told[at:at + 4], "big") for at in range(0, 32, 4)]


def kept(pieces):
    digest = Digest()
    for piece in pieces:
        digest.put(piece)
    return digest


class UnderWay(unittest.TestCase):
    """What is kept of the bytes put, as no call here tells the hash."""

    def test_is_sha_256(self):
        for data in ([], list(b"abc"), pattern(55), pattern(56), pattern(63), pattern(64), pattern(65), pattern(300)):
            digest = kept([filled_up(data)])
            self.assertEqual(digest.words, words_of(data))
            self.assertEqual(digest.rest, [])

    def test_cut_anywhere(self):
        data = filled_up(pattern(200))
        for cut in range(len(data) + 1):
            self.assertEqual(kept([data[:cut], data[cut:]]).words, words_of(pattern(200)))

    def test_many_pieces(self):
        data = pattern(389)
        whole = kept([data])
        for size in (1, 2, 3, 31, 63, 64, 65, 128, 200):
            digest = kept(cuts(data, size) + [[]])
            self.assertEqual((digest.words, digest.rest, digest.size), (whole.words, whole.rest, 389))

    def test_puts_do_not_share(self):
        first, second = Digest(), Digest()
        first.put(pattern(100))
        self.assertEqual((second.size, second.rest, second.words), (0, [], Digest().words))
        self.assertNotEqual(first.words, second.words)

    def test_bytes_put_stay(self):
        data = pattern(70)
        kept([data, data])
        self.assertEqual(data, pattern(70))


class Counts(unittest.TestCase):
    def test_counts(self):
        self.assertEqual(ask(hash_open(), hash_put([]), hash_put(b"abc"), hash_put(pattern(64)), hash_put([])),
                         [[0], [0], [3], [67], [67]])

    def test_cut_anywhere(self):
        data = pattern(150)
        for cut in range(151):
            self.assertEqual(ask(hash_open(), hash_put(data[:cut]), hash_put(data[cut:])), [[0], [cut], [150]])

    def test_many_pieces(self):
        told = ask(hash_open(), *[hash_put(piece) for piece in cuts(pattern(590), 10)])
        self.assertEqual(told, [[0]] + [[10 * (at + 1)] for at in range(59)])

    def test_begun_anew(self):
        self.assertEqual(ask(hash_open(), hash_put(pattern(4000)), hash_open(), hash_put([1]), hash_open(),
                             hash_open(), hash_put([])),
                         [[0], [4000], [0], [1], [0], [0], [0]])


class Refused(unittest.TestCase):
    def test_not_begun(self):
        for size in (0, 1, 4000, 4001, 5000):
            self.assertEqual(one(hash_put(pattern(size))), [-9])
        self.assertEqual(ask(hash_put([1]), hash_open(), hash_put([1])), [[-9], [0], [1]])

    def test_too_much_at_once(self):
        self.assertEqual(ask(hash_open(), hash_put(pattern(4001)), hash_put(pattern(5000)), hash_put(pattern(4000))),
                         [[0], [-7], [-7], [4000]])

    def test_too_much_added_up(self):
        self.assertEqual(ask(hash_open(), hash_put(pattern(3999)), hash_put([1, 2]), hash_put([1]), hash_put([1]),
                             hash_put([]), hash_put(pattern(4000))),
                         [[0], [3999], [-7], [4000], [-7], [4000], [-7]])


if __name__ == "__main__":
    unittest.main()
