"""hash_open, hash_put and hash_get: promises 1 and 6."""

import unittest

from tests.helper import ask, cuts, from_hex, hash_get, hash_open, hash_put, model_hash, one, pattern, text

ABC = from_hex("ba7816bf8f01cfea414140de5dae2223b00361a396177a9cb410ff61f20015ad")
NOTHING = from_hex("e3b0c44298fc1c149afbf4c8996fb92427ae41e4649b934ca495991b7852b855")


def hash_of(data):
    return ask(hash_open(), hash_put(data), hash_get())[2]


class Example(unittest.TestCase):
    def test_abc(self):
        self.assertEqual(ask(hash_open(), hash_put(b"abc"), hash_get()), [[0], [3], [0, 32] + ABC])


class Hash(unittest.TestCase):
    def test_known_values(self):
        # From FIPS 180-2, B.2, and of no bytes.
        two_blocks = b"abcdbcdecdefdefgefghfghighijhijkijkljklmklmnlmnomnopnopq"
        self.assertEqual(hash_of(two_blocks),
                         text(from_hex("248d6a61d20638b8e5c026930c3e6039a33ce45964ff2167f6ecedd419db06c1")))
        self.assertEqual(hash_of([]), text(NOTHING))

    def test_nothing_put(self):
        self.assertEqual(ask(hash_open(), hash_get(), hash_put([]), hash_get()),
                         [[0], text(NOTHING), [0], text(NOTHING)])

    def test_each_size(self):
        for size in range(0, 200):
            data = pattern(size, size)
            self.assertEqual(hash_of(data), text(model_hash(data)))

    def test_long(self):
        for size in (1000, 3999, 4000):
            for data in (pattern(size), [0] * size, [255] * size):
                self.assertEqual(hash_of(data), text(model_hash(data)))

    def test_cut_at_one_place(self):
        data = pattern(200)
        whole = text(model_hash(data))
        for cut in range(201):
            told = ask(hash_open(), hash_put(data[:cut]), hash_put([]), hash_put(data[cut:]), hash_get())
            self.assertEqual(told, [[0], [cut], [cut], [200], whole])

    def test_cut_at_two_places(self):
        data = pattern(140, 3)
        whole = text(model_hash(data))
        for first in range(0, 141, 5):
            for second in range(first, 141, 7):
                told = ask(hash_open(), hash_put(data[:first]), hash_put(data[first:second]),
                           hash_put(data[second:]), hash_get())
                self.assertEqual(told, [[0], [first], [second], [140], whole])

    def test_many_pieces(self):
        for size in (1, 2, 3, 9, 31, 55, 56, 63, 64, 65):
            data = pattern(50 * size, size)
            told = ask(hash_open(), *[hash_put(piece) for piece in cuts(data, size)], hash_put([]), hash_get())
            self.assertEqual(told[1:51], [[size * (at + 1)] for at in range(50)])
            self.assertEqual(told[51:], [[50 * size], text(model_hash(data))])

    def test_asked_in_the_middle(self):
        for size in (1, 8, 55, 64, 65):
            data = pattern(29 * size, 4)
            calls = [hash_open()]
            expected = [[0]]
            for at in range(29):
                calls += [hash_put(data[size * at:size * (at + 1)]), hash_get()]
                expected += [[size * (at + 1)], text(model_hash(data[:size * (at + 1)]))]
            self.assertEqual(ask(*calls, hash_get()), expected + [expected[-1]])

    def test_begun_anew(self):
        told = ask(hash_open(), hash_put(pattern(100)), hash_open(), hash_get(), hash_put(b"abc"), hash_get(),
                   hash_open(), hash_open(), hash_put(b"abc"), hash_get())
        self.assertEqual(told, [[0], [100], [0], text(NOTHING), [3], text(ABC), [0], [0], [3], text(ABC)])


class Refused(unittest.TestCase):
    def test_not_begun(self):
        for size in (0, 1, 4000, 4001, 5000):
            self.assertEqual(one(hash_put(pattern(size))), [-9])
        self.assertEqual(one(hash_get()), [-9])
        self.assertEqual(ask(hash_get(), hash_put([1]), hash_get(), hash_open(), hash_put(b"abc"), hash_get()),
                         [[-9], [-9], [-9], [0], [3], text(ABC)])

    def test_too_much_at_once(self):
        for size in (4001, 5000):
            self.assertEqual(ask(hash_open(), hash_put(pattern(size)), hash_get(), hash_put(b"abc"), hash_get()),
                             [[0], [-7], text(NOTHING), [3], text(ABC)])
        self.assertEqual(ask(hash_open(), hash_put(pattern(4000))), [[0], [4000]])

    def test_too_much_added_up(self):
        data = pattern(4000)
        told = ask(hash_open(), hash_put(data[:3997]), hash_put([9] * 4), hash_put([9] * 4000), hash_put(data[3997:]),
                   hash_get(), hash_put([1]), hash_put([]), hash_get())
        whole = text(model_hash(data))
        self.assertEqual(told, [[0], [3997], [-7], [-7], [4000], whole, [-7], [4000], whole])

    def test_room_again_when_begun_anew(self):
        self.assertEqual(ask(hash_open(), hash_put(pattern(4000)), hash_put([1]), hash_open(), hash_put([1])),
                         [[0], [4000], [-7], [0], [1]])


if __name__ == "__main__":
    unittest.main()
