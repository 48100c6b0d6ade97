"""aes and step: promises 4, 5 and 6."""

import random
import unittest

from lanternchecks.cipher import ORIGINALS, SUBSTITUTES
from tests.helper import (
    SUBSTITUTE, SUBSTITUTE_BACK, aes, ask, both, cuts, from_hex, hash_get, hash_open, hash_put, model_aes,
    model_block_product, model_columns, model_hash, model_step, one, pattern, step, text)

MOST = 2 ** 53 - 1
KEY = [7 * i + 1 for i in range(16)]
LONG_KEY = [(7 * i + 1) % 256 for i in range(32)]
BLOCK = [i * i % 256 for i in range(16)]
COUNTED = from_hex("00112233445566778899aabbccddeeff")
FOUR_BLOCKS = from_hex("6bc1bee22e409f96e93d7e117393172aae2d8a571e03ac9c9eb76fac45af8e51"
                       "30c81c46a35ce411e5fbc1191a0a52eff69f2445df4f9b17ad2b417be66c3710")


class Examples(unittest.TestCase):
    def test_counted_key(self):
        self.assertEqual(one(aes(0, range(16), COUNTED)), text(from_hex("69c4e0d86a7b0430d8cdb78070b4c55a")))

    def test_key_of_sevens(self):
        self.assertEqual(one(aes(0, KEY, BLOCK)), text(from_hex("ccdc7752270c72a7bdf526ca0b044729")))

    def test_round(self):
        self.assertEqual(one(step(0, BLOCK, KEY)), text(from_hex("1be52dcfe7720bb8703e30e19128d2f7")))

    def test_product(self):
        self.assertEqual(one(step(4, BLOCK, KEY)), text(from_hex("9fc602ac6a529b03dbd2668c64cec8ad")))


class Ciphered(unittest.TestCase):
    def holds(self, key, plain, ciphered):
        self.assertEqual(one(aes(0, key, plain)), text(ciphered))
        self.assertEqual(one(aes(1, key, ciphered)), text(plain))

    def test_fips_197(self):
        self.holds(range(16), COUNTED, from_hex("69c4e0d86a7b0430d8cdb78070b4c55a"))
        self.holds(range(32), COUNTED, from_hex("8ea2b7ca516745bfeafc49904b496089"))
        self.holds(from_hex("2b7e151628aed2a6abf7158809cf4f3c"), from_hex("3243f6a8885a308d313198a2e0370734"),
                   from_hex("3925841d02dc09fbdc118597196a0b32"))

    def test_sp_800_38a(self):
        self.holds(from_hex("2b7e151628aed2a6abf7158809cf4f3c"), FOUR_BLOCKS, from_hex(
            "3ad77bb40d7a3660a89ecaf32466ef97f5d3d58503b9699de785895a96fdbaaf"
            "43b1cd7f598ece23881b00e3ed0306887b0c785e27e8ad3f8223207104725dd4"))
        self.holds(from_hex("603deb1015ca71be2b73aef0857d77811f352c073b6108d72d9810a30914dff4"), FOUR_BLOCKS, from_hex(
            "f3eed1bdb5d2a03c064b5a7e3db181f8591ccb10d410ed26dc5ba74a31362870"
            "b6ed21b99ca6f4f9f153e7b1beafed1d23304b7a39f9f3ff067d8d8f9e24ecc7"))

    def test_no_block(self):
        for back in (0, 1):
            for key in (KEY, LONG_KEY):
                self.assertEqual(one(aes(back, key, [])), [0, 0])

    def test_against_the_model(self):
        chosen = random.Random(197)
        for turn in range(40):
            key = chosen.choices(range(256), k=chosen.choice([16, 32]))
            data = chosen.choices(range(256), k=16 * chosen.randrange(1, 5))
            self.holds(key, data, model_aes(0, key, data))
            self.assertEqual(one(aes(1, key, data)), text(model_aes(1, key, data)))

    def test_plain_keys_and_blocks(self):
        for key in ([0] * 16, [255] * 16, [0] * 32, [255] * 32):
            for block in ([0] * 16, [255] * 16, [128] + [0] * 15, [0] * 15 + [1]):
                self.holds(key, block, model_aes(0, key, block))
                self.assertEqual(one(aes(1, key, block)), text(model_aes(1, key, block)))

    def test_each_block_by_itself(self):
        data = pattern(160)
        for key in (KEY, LONG_KEY):
            for back in (0, 1):
                parts = [one(aes(back, key, block))[2:] for block in cuts(data, 16)]
                self.assertEqual(one(aes(back, key, data)), text(sum(parts, [])))
                self.assertEqual(one(aes(back, key, data[:16] * 3)), text(parts[0] * 3))

    def test_most_blocks(self):
        data = pattern(4000, 8)
        for key in (KEY, LONG_KEY):
            self.holds(key, data, one(aes(0, key, data))[2:])
            self.assertEqual(one(aes(0, key, data))[-16:], model_aes(0, key, data[-16:]))

    def test_deciphered_first(self):
        for key in (KEY, LONG_KEY):
            data = pattern(48, 9)
            back = one(aes(1, key, data))[2:]
            self.assertNotEqual(back, data)
            self.assertEqual(one(aes(0, key, back)), text(data))

    def test_keys_differ(self):
        told = [one(aes(0, key, BLOCK)) for key in (KEY, KEY + KEY, KEY + [0] * 16, LONG_KEY)]
        self.assertEqual(len({tuple(answer) for answer in told}), 4)


class Steps(unittest.TestCase):
    def test_substitutes(self):
        self.assertEqual(list(SUBSTITUTES), SUBSTITUTE)
        self.assertEqual(list(ORIGINALS), SUBSTITUTE_BACK)

    def test_against_the_model(self):
        chosen = random.Random(5)
        for turn in range(60):
            block, key = [chosen.choices(range(256), k=16) for part in range(2)]
            for which in range(5):
                self.assertEqual(one(step(which, block, key)), text(model_step(which, block, key)))

    def test_each_byte_at_each_place(self):
        for place in range(16):
            for byte in (1, 2, 0x53, 0x7F, 0x80, 0xFF):
                block = [0] * place + [byte] + [0] * (15 - place)
                for which in range(5):
                    self.assertEqual(one(step(which, block, KEY)), text(model_step(which, block, KEY)))
                    self.assertEqual(one(step(which, KEY, block)), text(model_step(which, KEY, block)))

    def test_every_byte(self):
        for start in range(0, 256, 16):
            block = list(range(start, start + 16))
            for which in range(4):
                self.assertEqual(one(step(which, block, [0] * 16)), text(model_step(which, block, [0] * 16)))

    def test_last_is_undone_by_unlast(self):
        last = one(step(1, BLOCK, KEY))[2:]
        self.assertEqual(one(step(3, both(last, KEY), [0] * 16)), text(BLOCK))
        unlast = one(step(3, BLOCK, KEY))[2:]
        self.assertEqual(one(step(1, both(unlast, KEY), [0] * 16)), text(BLOCK))

    def test_round_and_unround(self):
        # The round has columns between the substitutes and the key, so the
        # unround undoes it by way of the columns back of what it takes in.
        mixed = both(one(step(0, BLOCK, KEY))[2:], KEY)
        unmixed = model_columns(mixed, (14, 11, 13, 9))
        self.assertEqual(one(step(3, unmixed, [0] * 16)), text(BLOCK))
        self.assertEqual(one(step(2, unmixed, KEY)), text(both(model_columns(BLOCK, (14, 11, 13, 9)), KEY)))

    def test_steps_make_the_cipher(self):
        # FIPS 197, appendix B: the first round's start, key and end.
        start = from_hex("193de3bea0f4e22b9ac68d2ae9f84808")
        key = from_hex("a0fafe1788542cb123a339392a6c7605")
        self.assertEqual(one(step(0, start, key)), text(from_hex("a49c7ff2689f352b6b5bea43026a5049")))
        start = from_hex("eb40f21e592e38848ba113e71bc342d2")
        key = from_hex("d014f9a8c9ee2589e13f0cc8b6630ca6")
        self.assertEqual(one(step(1, start, key)), text(from_hex("3925841d02dc09fbdc118597196a0b32")))


def times(a, b):
    answer = one(step(4, a, b))
    assert answer[:2] == [0, 16] and len(answer) == 18, answer
    return answer[2:]


def bit(i):
    return [128 >> i % 8 if at == i // 8 else 0 for at in range(16)]


class Products(unittest.TestCase):
    def setUp(self):
        chosen = random.Random(128)
        self.blocks = [[0] * 16, bit(0), bit(1), bit(127), [255] * 16, BLOCK, KEY]
        self.blocks += [chosen.choices(range(256), k=16) for turn in range(8)]

    def test_bits(self):
        for i in range(128):
            self.assertEqual(times(bit(i), bit(0)), bit(i))
            if i < 127:
                self.assertEqual(times(bit(i), bit(1)), bit(i + 1))
            for j in (1, 7, 63, 64, 120, 126, 127):
                self.assertEqual(times(bit(i), bit(j)), model_block_product(bit(i), bit(j)))

    def test_folded(self):
        # x times x^127 is x^7 + x^2 + x + 1.
        self.assertEqual(times(bit(1), bit(127)), [0b11100001] + [0] * 15)

    def test_any_order(self):
        for a in self.blocks:
            for b in self.blocks:
                self.assertEqual(times(a, b), model_block_product(a, b))
                self.assertEqual(times(a, b), times(b, a))
        for a, b, c in zip(self.blocks, self.blocks[3:], self.blocks[5:]):
            self.assertEqual(times(times(a, b), c), times(a, times(b, c)))
            self.assertEqual(times(a, both(b, c)), both(times(a, b), times(a, c)))

    def test_one_and_nought(self):
        for a in self.blocks:
            self.assertEqual(times(a, bit(0)), a)
            self.assertEqual(times(a, [0] * 16), [0] * 16)

    def test_inverse(self):
        # a^(2^128 - 2), by the call alone: the square of each power in turn.
        for a in self.blocks[1:9]:
            found, square = bit(0), a
            for turn in range(127):
                square = times(square, square)
                found = times(found, square)
            self.assertEqual(times(a, found), bit(0))


class Refused(unittest.TestCase):
    def test_aes_back(self):
        for back in (2, 3, 256, MOST):
            self.assertEqual(one(aes(back, KEY, BLOCK)), [-1])
            self.assertEqual(one(aes(back, KEY, [])), [-1])

    def test_aes_key(self):
        for size in (0, 1, 8, 15, 17, 24, 31, 33, 64, 5000):
            for back in (0, 1):
                for data in ([], BLOCK, [1]):
                    self.assertEqual(one(aes(back, pattern(size), data)), [-1])
        for size in (16, 32):
            self.assertEqual(one(aes(0, pattern(size), BLOCK))[:2], [0, 16])

    def test_aes_bytes(self):
        for back in (0, 1):
            for size in (1, 8, 15, 17, 31, 33, 3999, 4001, 4015, 4016, 4992, 5000):
                self.assertEqual(one(aes(back, KEY, pattern(size))), [-1])
            for size in (0, 16, 32, 3984, 4000):
                self.assertEqual(one(aes(back, KEY, pattern(size)))[:2], [0, size])

    def test_aes_several_at_once(self):
        self.assertEqual(one(aes(2, [], [1])), [-1])
        self.assertEqual(one(aes(MOST, pattern(15), pattern(4016))), [-1])

    def test_step_which(self):
        for which in (5, 6, 255, 256, MOST):
            self.assertEqual(one(step(which, BLOCK, KEY)), [-1])

    def test_step_sizes(self):
        for which in (0, 1, 2, 3, 4, 5, MOST):
            for size in (0, 1, 15, 17, 32, 5000):
                self.assertEqual(one(step(which, pattern(size), KEY)), [-1])
                self.assertEqual(one(step(which, BLOCK, pattern(size))), [-1])
                self.assertEqual(one(step(which, pattern(size), pattern(size))), [-1])
        self.assertEqual(one(step(0, pattern(15), pattern(17))), [-1])

    def test_goes_on_afterwards(self):
        told = ask(hash_open(), hash_put(b"lan"), aes(2, KEY, BLOCK), step(5, BLOCK, KEY), hash_put(b"tern"),
                   aes(0, KEY, BLOCK), step(0, BLOCK, KEY), hash_get())
        self.assertEqual(told, [[0], [3], [-1], [-1], [7], text(from_hex("ccdc7752270c72a7bdf526ca0b044729")),
                                text(from_hex("1be52dcfe7720bb8703e30e19128d2f7")), text(model_hash(b"lantern"))])


if __name__ == "__main__":
    unittest.main()
