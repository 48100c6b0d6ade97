"""seal and unseal: promises 3 and 6."""

import random
import unittest

from tests.helper import (
    ask, box_open, box_put, box_tag, both, from_hex, model_seal, one, pattern, seal, text, texts, unseal)

KEY = [7 * i + 1 for i in range(16)]
LONG_KEY = pattern(32, 5)
NONCE = list(range(40, 52))
SHOWN = list(b"lantern")
MESSAGE = list(b"lanternworklanternwork")
SEALED = from_hex("46c4296c5964fc6d34f4df03ec6f3f895b70af60a06b")
TAG = from_hex("b4f126525cb958e566184bc3cb73fbf9")


def sealed_and_tag(key, nonce, shown, data):
    answer = one(seal(key, nonce, shown, data))
    size = len(data)
    assert answer[:2] == [0, size] and answer[2 + size] == 16 and len(answer) == 19 + size, answer
    return answer[2:2 + size], answer[3 + size:]


def changed(data, place, by=1):
    return data[:place] + [data[place] ^ by] + data[place + 1:]


class Example(unittest.TestCase):
    def test_lantern(self):
        self.assertEqual(one(seal(KEY, NONCE, SHOWN, MESSAGE)), [0, 22] + SEALED + [16] + TAG)
        self.assertEqual(one(unseal(KEY, NONCE, SHOWN, SEALED, TAG)), [0, 22] + MESSAGE)


class Sealed(unittest.TestCase):
    def holds(self, key, nonce, shown, message, sealed, tag):
        self.assertEqual(one(seal(key, nonce, shown, message)), texts(sealed, tag))
        self.assertEqual(one(unseal(key, nonce, shown, sealed, tag)), text(message))

    def test_known_values(self):
        # The test cases 1, 2, 13 and 14 of the paper that SP 800-38D names.
        for size, empty_tag, sealed, tag in (
                (16, "58e2fccefa7e3061367f1d57a4e7455a", "0388dace60b6a392f328c2b971b2fe78",
                 "ab6e47d42cec13bdf53a67b21257bddf"),
                (32, "530f8afbc74536b9a963b4f1c4cb738b", "cea7403d4d606b6e074ec5d3baf39d18",
                 "d0d1c8a799996bf0265b98b5d48ab919")):
            self.holds([0] * size, [0] * 12, [], [], [], from_hex(empty_tag))
            self.holds([0] * size, [0] * 12, [], [0] * 16, from_hex(sealed), from_hex(tag))

    def test_known_values_with_shown(self):
        # The test cases 3, 4 and 16 of the same.
        key = from_hex("feffe9928665731c6d6a8f9467308308")
        nonce = from_hex("cafebabefacedbaddecaf888")
        message = from_hex("d9313225f88406e5a55909c5aff5269a86a7a9531534f7da2e4c303d8a318a72"
                           "1c3c0c95956809532fcf0e2449a6b525b16aedf5aa0de657ba637b391aafd255")
        shown = from_hex("feedfacedeadbeeffeedfacedeadbeefabaddad2")
        sealed = from_hex("42831ec2217774244b7221b784d0d49ce3aa212f2c02a4e035c17e2329aca12e"
                          "21d514b25466931c7d8f6a5aac84aa051ba30b396a0aac973d58e091473f5985")
        self.holds(key, nonce, [], message, sealed, from_hex("4d5c2af327cd64a62cf35abd2ba6fab4"))
        self.holds(key, nonce, shown, message[:60], sealed[:60], from_hex("5bc94fbc3221a5db94fae95ae7121a47"))
        sealed = from_hex("522dc1f099567d07f47f37a32a84427d643a8cdcbfe5c0c97598a2bd2555d1aa"
                          "8cb08e48590dbb3da7b08b1056828838c5f61e6393ba7a0abcc9f662")
        self.holds(key + key, nonce, shown, message[:60], sealed, from_hex("76fc6ece0f4e1768cddf8853bb2d551b"))

    def test_against_the_model(self):
        for key in (KEY, LONG_KEY):
            for shown_size in (0, 1, 15, 16, 17, 40):
                for size in (0, 1, 15, 16, 17, 32, 50):
                    shown, message = pattern(shown_size, 2), pattern(size, 3)
                    self.holds(key, NONCE, shown, message, *model_seal(key, NONCE, shown, message))

    def test_any_keys_and_nonces(self):
        chosen = random.Random(38)
        for turn in range(30):
            key, nonce, shown, message = [
                chosen.choices(range(256), k=size)
                for size in (chosen.choice([16, 32]), 12, chosen.randrange(70), chosen.randrange(70))]
            self.holds(key, nonce, shown, message, *model_seal(key, nonce, shown, message))

    def test_longest(self):
        shown, message = pattern(4000, 6), pattern(4000, 7)
        for key in (KEY, LONG_KEY):
            sealed, tag = model_seal(key, NONCE, shown, message)
            self.holds(key, NONCE, shown, message, sealed, tag)
            self.holds(key, NONCE, [], message, *model_seal(key, NONCE, [], message))
            self.holds(key, NONCE, shown, [], *model_seal(key, NONCE, shown, []))

    def test_shown_is_not_sealed(self):
        # A nought more or fewer in either part counts, by the lengths.
        tags = [sealed_and_tag(KEY, NONCE, [0] * shown, [0] * size)[1]
                for shown in (0, 1, 15, 16) for size in (0, 1, 15, 16)]
        self.assertEqual(len({tuple(tag) for tag in tags}), 16)


class Opened(unittest.TestCase):
    def test_any_byte_of_the_tag(self):
        for place in range(16):
            for by in (1, 128, 255):
                self.assertEqual(one(unseal(KEY, NONCE, SHOWN, SEALED, changed(TAG, place, by))), [-6])

    def test_any_bit_of_the_tag(self):
        for place in range(128):
            self.assertEqual(one(unseal(KEY, NONCE, SHOWN, SEALED, changed(TAG, place // 8, 1 << place % 8))), [-6])

    def test_sealed_bytes_changed(self):
        for place in range(22):
            for by in (1, 128):
                self.assertEqual(one(unseal(KEY, NONCE, SHOWN, changed(SEALED, place, by), TAG)), [-6])
        for other in (SEALED[:-1], SEALED[1:], SEALED + [0], [0] + SEALED, [], SEALED[:16], MESSAGE):
            self.assertEqual(one(unseal(KEY, NONCE, SHOWN, other, TAG)), [-6])

    def test_shown_changed(self):
        for place in range(7):
            self.assertEqual(one(unseal(KEY, NONCE, changed(SHOWN, place), SEALED, TAG)), [-6])
        for other in ([], SHOWN[:-1], SHOWN + [0], SHOWN + [0] * 9, SEALED):
            self.assertEqual(one(unseal(KEY, NONCE, other, SEALED, TAG)), [-6])

    def test_parts_moved(self):
        # Filled up the two are the same blocks; only the lengths tell.
        first, second = pattern(16, 2), pattern(16, 3)
        sealed, tag = sealed_and_tag(KEY, NONCE, first, second)
        self.assertEqual(one(unseal(KEY, NONCE, first + sealed, [], tag)), [-6])
        self.assertEqual(one(unseal(KEY, NONCE, [], first + sealed, tag)), [-6])
        self.assertEqual(one(unseal(KEY, NONCE, sealed, first, tag)), [-6])
        self.assertEqual(one(unseal(KEY, NONCE, first, sealed, tag)), text(second))

    def test_key_or_nonce_changed(self):
        for place in range(16):
            self.assertEqual(one(unseal(changed(KEY, place), NONCE, SHOWN, SEALED, TAG)), [-6])
        for place in range(12):
            self.assertEqual(one(unseal(KEY, changed(NONCE, place), SHOWN, SEALED, TAG)), [-6])
        self.assertEqual(one(unseal(KEY + KEY, NONCE, SHOWN, SEALED, TAG)), [-6])

    def test_longest_changed(self):
        shown, message = pattern(4000, 6), pattern(4000, 7)
        sealed, tag = sealed_and_tag(LONG_KEY, NONCE, shown, message)
        self.assertEqual(one(unseal(LONG_KEY, NONCE, shown, changed(sealed, 3999), tag)), [-6])
        self.assertEqual(one(unseal(LONG_KEY, NONCE, changed(shown, 0), sealed, tag)), [-6])
        self.assertEqual(one(unseal(LONG_KEY, NONCE, shown, sealed, tag)), text(message))

    def test_nothing_sealed(self):
        tag = sealed_and_tag(KEY, NONCE, [], [])[1]
        self.assertEqual(one(unseal(KEY, NONCE, [], [], tag)), [0, 0])
        self.assertEqual(one(unseal(KEY, NONCE, [], [], changed(tag, 15))), [-6])
        self.assertEqual(one(unseal(KEY, NONCE, [], [0], tag)), [-6])
        self.assertEqual(one(unseal(KEY, NONCE, [0], [], tag)), [-6])

    def test_tag_of_noughts(self):
        self.assertEqual(one(unseal(KEY, NONCE, SHOWN, SEALED, [0] * 16)), [-6])

    def test_sealed_twice_is_the_message(self):
        again = sealed_and_tag(KEY, NONCE, SHOWN, SEALED)[0]
        self.assertEqual(again, MESSAGE)
        self.assertEqual(both(SEALED, MESSAGE), sealed_and_tag(KEY, NONCE, [], [0] * 22)[0])


class Refused(unittest.TestCase):
    def refused(self, key, nonce, shown, data, tag=None):
        if tag is None:
            self.assertEqual(one(seal(key, nonce, shown, data)), [-1])
        self.assertEqual(one(unseal(key, nonce, shown, data, TAG if tag is None else tag)), [-1])

    def test_key(self):
        for size in (0, 1, 15, 17, 24, 31, 33, 64, 4000):
            self.refused(pattern(size), NONCE, SHOWN, SEALED)
            self.refused(pattern(size), NONCE, [], [])

    def test_nonce(self):
        for size in (0, 1, 8, 11, 13, 16, 4000):
            self.refused(KEY, pattern(size), SHOWN, SEALED)
            self.refused(LONG_KEY, pattern(size), [], [])

    def test_bytes(self):
        for size in (4001, 5000):
            self.refused(KEY, NONCE, SHOWN, pattern(size))
            self.refused(KEY, NONCE, pattern(size), SEALED)
            self.refused(KEY, NONCE, pattern(size), pattern(size))
        self.assertEqual(one(seal(KEY, NONCE, pattern(4000), pattern(4000)))[:2], [0, 4000])
        self.assertEqual(one(unseal(KEY, NONCE, pattern(4000), pattern(4000), TAG)), [-6])

    def test_tag(self):
        for size in (0, 1, 12, 15, 17, 32, 5000):
            self.refused(KEY, NONCE, SHOWN, SEALED, (TAG * 400)[:size])
        self.assertEqual(one(unseal(KEY, NONCE, SHOWN, SEALED, TAG)), text(MESSAGE))

    def test_wrong_ahead_of_another_tag(self):
        other = changed(TAG, 0)
        self.refused(pattern(15), NONCE, SHOWN, SEALED, other)
        self.refused(KEY, pattern(11), SHOWN, SEALED, other)
        self.refused(KEY, NONCE, pattern(4001), SEALED, other)
        self.refused(KEY, NONCE, SHOWN, pattern(4001), other)
        self.refused(KEY, NONCE, SHOWN, SEALED, other[:15])

    def test_leaves_the_box(self):
        told = ask(box_open(0, KEY, NONCE), box_put(MESSAGE[:5]), seal(LONG_KEY, NONCE, SHOWN, MESSAGE),
                   seal([], NONCE, SHOWN, MESSAGE), unseal(KEY, NONCE, SHOWN, SEALED, changed(TAG, 3)),
                   unseal(KEY, NONCE, SHOWN, SEALED, TAG), unseal(KEY, NONCE, SHOWN, SEALED, []),
                   box_put(MESSAGE[5:]), box_tag())
        sealed, tag = model_seal(KEY, NONCE, [], MESSAGE)
        self.assertEqual(told, [[0], text(sealed[:5]), texts(*model_seal(LONG_KEY, NONCE, SHOWN, MESSAGE)), [-1], [-6],
                                text(MESSAGE), [-1], text(sealed[5:]), text(tag)])


if __name__ == "__main__":
    unittest.main()
