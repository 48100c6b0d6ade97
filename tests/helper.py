"""Writes calls, reads answers, and a plain model to hold them against.

The model is written apart from the program: polynomials are multiplied
whole and divided once, and each message is kept and reckoned as a whole.
"""

import functools
import hashlib

from lanternchecks.checks import answers

CRC_POLYNOMIAL = sum(1 << i for i in (
    32, 28, 27, 26, 25, 23, 22, 20, 19, 18, 14, 13, 11, 10, 9, 8, 6, 0))
FIELD_POLYNOMIAL = sum(1 << i for i in (64, 4, 3, 1, 0))
BYTE_POLYNOMIAL = sum(1 << i for i in (8, 4, 3, 1, 0))
BLOCK_POLYNOMIAL = sum(1 << i for i in (128, 7, 2, 1, 0))
GOLDEN = 0x9E3779B97F4A7C15
ZERO = [0] * 8


def crc(before, data):
    return [0, before, len(data)] + list(data)


def crc_join(a, b, n):
    return [1, a, b, n]


def sum_open(key):
    return [2, len(key)] + list(key)


def sum_put(data):
    return [3, len(data)] + list(data)


def sum_get():
    return [4]


def field_mul(a, b):
    return [5, len(a)] + list(a) + [len(b)] + list(b)


def sum_join(na, nb, key, a, b):
    rows = [[len(row)] + list(row) for row in (key, a, b)]
    return [6, na, nb] + rows[0] + rows[1] + rows[2]


def hash_open():
    return [7]


def hash_put(data):
    return [8, len(data)] + list(data)


def hash_get():
    return [9]


def with_rows(*rows):
    return [number for data in rows for number in [len(data)] + list(data)]


def aes(back, key, data):
    return [10, back] + with_rows(key, data)


def step(which, block, key):
    return [11, which] + with_rows(block, key)


def box_open(way, key, nonce):
    return [12, way] + with_rows(key, nonce)


def box_shown(data):
    return [13] + with_rows(data)


def box_put(data):
    return [14] + with_rows(data)


def box_tag(tag=()):
    return [15] + with_rows(tag)


def seal(key, nonce, shown, data):
    return [16] + with_rows(key, nonce, shown, data)


def unseal(key, nonce, shown, data, tag):
    return [17] + with_rows(key, nonce, shown, data, tag)


def row(number):
    return list(number.to_bytes(8, "little"))


def text(data):
    return [0, len(data)] + list(data)


def texts(*found):
    return [0] + with_rows(*found)


def from_hex(digits):
    return list(bytes.fromhex(digits))


def split_answers(told):
    found = []
    at = 0
    while at < len(told):
        size = told[at]
        assert size >= 1, told
        found.append(told[at + 1:at + 1 + size])
        assert len(found[-1]) == size, told
        at += 1 + size
    return found


def ask(*calls):
    """The answers of one line, a list for each call."""
    flat = [number for call in calls for number in call]
    before = list(flat)
    told = answers(flat)
    assert flat == before, "the list handed in was changed"
    assert type(told) is list and all(type(number) is int for number in told)
    found = split_answers(told)
    assert len(found) == len(calls), (len(found), len(calls))
    return found


def one(call):
    return ask(call)[0]


def pattern(size, seed=1):
    return [(seed * 37 + i * i * 11 + i * 5 + (i >> 3)) & 255 for i in range(size)]


def cuts(data, size):
    return [data[at:at + size] for at in range(0, len(data), size)]


def remainder(number, modulus):
    top = modulus.bit_length()
    while number.bit_length() >= top:
        number ^= modulus << (number.bit_length() - top)
    return number


def model_product(a, b, modulus=FIELD_POLYNOMIAL):
    whole = 0
    for i in range(b.bit_length()):
        if b >> i & 1:
            whole ^= a << i
    return remainder(whole, modulus)


def model_power(base, exponent):
    result = 1
    for bit in bin(exponent)[2:]:
        result = model_product(result, result)
        if bit == "1":
            result = model_product(result, base)
    return result


def mirrored(number):
    return int(f"{number:032b}"[::-1], 2)


def model_crc(data, before=0):
    """The check by one long division; the highest power is the first bit."""
    bits = "".join(f"{byte:08b}"[::-1] for byte in data)
    start = mirrored(before ^ 0xFFFFFFFF) << len(bits)
    whole = (int(bits or "0", 2) << 32) ^ start
    return mirrored(remainder(whole, CRC_POLYNOMIAL)) ^ 0xFFFFFFFF


def model_crc_join(a, b, n):
    return mirrored(remainder(mirrored(a) << (8 * n), CRC_POLYNOMIAL)) ^ b


def model_sum(key, data):
    """The sum as one polynomial in the key, term by term."""
    blocks = [int.from_bytes(bytes(block), "little") for block in cuts(data, 8)]
    total = model_product(len(data), key)
    for back, block in enumerate(reversed(blocks)):
        total ^= model_product(block, model_power(key, back + 2))
    return total


def model_sum_join(na, nb, key, a, b):
    if na % 8 or key == 0:
        return 0
    # a h^k less what its own length gave, and the whole's length anew.
    k = -(-nb // 8)
    moved = model_product(a ^ model_product(na, key), model_power(key, k))
    return moved ^ b ^ model_product(nb ^ (na + nb), key)


def model_hash(data):
    return list(hashlib.sha256(bytes(data)).digest())


def byte_substitute(byte):
    inverse = next((other for other in range(256) if model_product(byte, other, BYTE_POLYNOMIAL) == 1), 0)
    bits = [sum(inverse >> (i + k) % 8 & 1 for k in (0, 4, 5, 6, 7)) + (99 >> i) for i in range(8)]
    return sum((bit & 1) << i for i, bit in enumerate(bits))


SUBSTITUTE = [byte_substitute(byte) for byte in range(256)]
SUBSTITUTE_BACK = [SUBSTITUTE.index(byte) for byte in range(256)]
TIMES = {factor: [model_product(factor, byte, BYTE_POLYNOMIAL) for byte in range(256)]
         for factor in (1, 2, 3, 9, 11, 13, 14)}


def both(first, second):
    assert len(first) == len(second)
    return [a ^ b for a, b in zip(first, second)]


def model_rows(block, way):
    """Row r turned by r: left by way 1, right by way -1."""
    return [block[4 * ((column + way * r) % 4) + r] for column in range(4) for r in range(4)]


def model_columns(block, factors):
    """Each column times the matrix whose rows are the factors, turned."""
    mixed = []
    for column in cuts(block, 4):
        for r in range(4):
            parts = [TIMES[factors[(j - r) % 4]][column[j]] for j in range(4)]
            mixed.append(parts[0] ^ parts[1] ^ parts[2] ^ parts[3])
    return mixed


def model_step(which, block, key):
    if which == 4:
        return model_block_product(block, key)
    way, table, factors = (1, SUBSTITUTE, (2, 3, 1, 1)) if which < 2 else (-1, SUBSTITUTE_BACK, (14, 11, 13, 9))
    state = [table[byte] for byte in model_rows(block, way)]
    if which in (0, 2):
        state = model_columns(state, factors)
    return both(state, key)


@functools.lru_cache
def model_round_keys(key):
    words = cuts(list(key), 4)
    nk = len(words)
    power = 1
    for i in range(nk, 4 * (nk + 7)):
        word = words[i - 1]
        if i % nk == 0:
            word = [SUBSTITUTE[byte] for byte in (word[1], word[2], word[3], word[0])]
            word[0] ^= power
            power = model_product(power, 2, BYTE_POLYNOMIAL)
        elif nk == 8 and i % 8 == 4:
            word = [SUBSTITUTE[byte] for byte in word]
        words.append(both(words[i - nk], word))
    return cuts(sum(words, []), 16)


def model_encipher(key, block):
    return list(kept_encipher(tuple(key), tuple(block)))


@functools.lru_cache(maxsize=None)
def kept_encipher(key, block):
    keys = model_round_keys(key)
    state = both(block, keys[0])
    for round_key in keys[1:-1]:
        state = model_step(0, state, round_key)
    return model_step(1, state, keys[-1])


def model_decipher(key, block):
    """By the unrounds, whose keys but the outer two go through the columns back."""
    keys = model_round_keys(tuple(key))
    state = both(block, keys[-1])
    for round_key in keys[-2:0:-1]:
        state = model_step(2, state, model_columns(round_key, (14, 11, 13, 9)))
    return model_step(3, state, keys[0])


def model_aes(back, key, data):
    turned = model_decipher if back else model_encipher
    return [byte for block in cuts(list(data), 16) for byte in turned(key, block)]


def block_number(block):
    """Bit i of the block, from byte 0's highest on, is bit i of the number."""
    return int("".join(f"{byte:08b}" for byte in block)[::-1], 2)


def number_block(number):
    bits = f"{number:0128b}"[::-1]
    return [int(bits[at:at + 8], 2) for at in range(0, 128, 8)]


def model_block_product(first, second):
    return number_block(model_product(block_number(first), block_number(second), BLOCK_POLYNOMIAL))


def model_stream(key, nonce, size):
    counters = [list(nonce) + list(number.to_bytes(4, "big")) for number in range(2, 2 + -(-size // 16))]
    return model_aes(0, key, [byte for counter in counters for byte in counter])[:size]


def model_tag(key, nonce, shown, sealed):
    """The tag as one polynomial in H, from its constant end."""
    blocks = cuts(list(shown) + [0] * (-len(shown) % 16), 16) + cuts(list(sealed) + [0] * (-len(sealed) % 16), 16)
    blocks.append([byte for part in (shown, sealed) for byte in (8 * len(part)).to_bytes(8, "big")])
    h = block_number(model_encipher(key, [0] * 16))
    total, power = 0, h
    for block in reversed(blocks):
        total ^= model_product(block_number(block), power, BLOCK_POLYNOMIAL)
        power = model_product(power, h, BLOCK_POLYNOMIAL)
    return both(number_block(total), model_encipher(key, list(nonce) + [0, 0, 0, 1]))


def model_seal(key, nonce, shown, data):
    sealed = both(list(data), model_stream(key, nonce, len(data)))
    return sealed, model_tag(key, nonce, shown, sealed)
