"""SHA-256, as FIPS 180-4 has it."""

from lanternchecks.blocks import behind_blocks, high_first, whole_blocks

BLOCK = 64
WORD = 0xFFFFFFFF

FIRST_WORDS = (
    0x6A09E667, 0xBB67AE85, 0x3C6EF372, 0xA54FF53A,
    0x510E527F, 0x9B05688C, 0x1F83D9AB, 0x5BE0CD19,
)

ROUND_WORDS = (
    0x428A2F98, 0x71374491, 0xB5C0FBCF, 0xE9B5DBA5,
    0x3956C25B, 0x59F111F1, 0x923F82A4, 0xAB1C5ED5,
    0xD807AA98, 0x12835B01, 0x243185BE, 0x550C7DC3,
    0x72BE5D74, 0x80DEB1FE, 0x9BDC06A7, 0xC19BF174,
    0xE49B69C1, 0xEFBE4786, 0x0FC19DC6, 0x240CA1CC,
    0x2DE92C6F, 0x4A7484AA, 0x5CB0A9DC, 0x76F988DA,
    0x983E5152, 0xA831C66D, 0xB00327C8, 0xBF597FC7,
    0xC6E00BF3, 0xD5A79147, 0x06CA6351, 0x14292967,
    0x27B70A85, 0x2E1B2138, 0x4D2C6DFC, 0x53380D13,
    0x650A7354, 0x766A0ABB, 0x81C2C92E, 0x92722C85,
    0xA2BFE8A1, 0xA81A664B, 0xC24B8B70, 0xC76C51A3,
    0xD192E819, 0xD6990624, 0xF40E3585, 0x106AA070,
    0x19A4C116, 0x1E376C08, 0x2748774C, 0x34B0BCB5,
    0x391C0CB3, 0x4ED8AA4A, 0x5B9CCA4F, 0x682E6FF3,
    0x748F82EE, 0x78A5636F, 0x84C87814, 0x8CC70208,
    0x90BEFFFA, 0xA4506CEB, 0xBEF9A3F7, 0xC67178F2,
)


class Digest:
    """A hash under way: whole blocks are taken in, the rest waits."""

    def __init__(self):
        self.words = list(FIRST_WORDS)
        self.size = 0
        self.rest = []

    def put(self, data):
        waiting = self.rest + data
        for block in whole_blocks(waiting, BLOCK):
            self.words = compressed(self.words, block)
        self.rest = behind_blocks(waiting, BLOCK)
        self.size = self.size + len(data)

    def hash_so_far(self):
        # The rest is ended on a copy, as more bytes may follow.
        words = self.words
        for block in whole_blocks(self.rest + ending_of(self.size), BLOCK):
            words = compressed(words, block)
        found = []
        for word in words:
            found.extend(high_first(word, 4))
        return found


def ending_of(size):
    """What stands behind a message of so many bytes, up to whole blocks."""
    noughts = (BLOCK - 9 - size) % BLOCK
    return [128] + [0] * noughts + high_first(8 * size, 8)


def compressed(words, block):
    schedule = schedule_of(block)
    turning = words
    for at in range(64):
        turning = after_round(turning, (schedule[at] + ROUND_WORDS[at]) & WORD)
    return [(old + new) & WORD for old, new in zip(words, turning)]


def schedule_of(block):
    words = [word_at(block, at) for at in range(0, BLOCK, 4)]
    for at in range(16, 64):
        near = words[at - 2]
        far = words[at - 15]
        near_mix = turned(near, 17) ^ turned(near, 19) ^ (near >> 10)
        far_mix = turned(far, 7) ^ turned(far, 18) ^ (far >> 3)
        words.append((near_mix + words[at - 7] + far_mix + words[at - 16]) & WORD)
    return words


def word_at(block, at):
    return (block[at] << 24) | (block[at + 1] << 16) | (block[at + 2] << 8) | block[at + 3]


def after_round(words, added):
    a = words[0]
    e = words[4]
    choice = (e & words[5]) ^ ((e ^ WORD) & words[6])
    most = (a & words[1]) ^ (a & words[2]) ^ (words[1] & words[2])
    first = words[7] + (turned(e, 6) ^ turned(e, 11) ^ turned(e, 25)) + choice + added
    second = (turned(a, 2) ^ turned(a, 13) ^ turned(a, 22)) + most
    return [(first + second) & WORD] + words[0:3] + [(words[3] + first) & WORD] + words[4:7]


def turned(word, places):
    """The word turned right by so many places."""
    return ((word >> places) | (word << (32 - places))) & WORD
