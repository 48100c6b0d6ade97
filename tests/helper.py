"""Writes calls, reads answers, and a plain model to hold them against.

The model is written apart from the program: polynomials are multiplied
whole and divided once, and each message is kept and reckoned as a whole.
"""

from lanternchecks.checks import answers

CRC_POLYNOMIAL = sum(1 << i for i in (
    32, 28, 27, 26, 25, 23, 22, 20, 19, 18, 14, 13, 11, 10, 9, 8, 6, 0))
FIELD_POLYNOMIAL = sum(1 << i for i in (64, 4, 3, 1, 0))
GOLDEN = 0x9E3779B97F4A7C15
ZERO = [0] * 8


def crc(before, data):
    return [0, before, len(data)] + list(data)


def crc_join(a, b, n):
    return [1, a, b, n]


def sum_open(key):
    return [2, len(key)] + list(key)


def sum_put(data):
    return [3, len(data)] + list(data)


def sum_get():
    return [4]


def field_mul(a, b):
    return [5, len(a)] + list(a) + [len(b)] + list(b)


def sum_join(na, nb, key, a, b):
    rows = [[len(row)] + list(row) for row in (key, a, b)]
    return [6, na, nb] + rows[0] + rows[1] + rows[2]


def hash_open():
    return [7]


def hash_put(data):
    return [8, len(data)] + list(data)


def row(number):
    return list(number.to_bytes(8, "little"))


def text(data):
    return [0, len(data)] + list(data)


def split_answers(told):
    found = []
    at = 0
    while at < len(told):
        size = told[at]
        assert size >= 1, told
        found.append(told[at + 1:at + 1 + size])
        assert len(found[-1]) == size, told
        at += 1 + size
    return found


def ask(*calls):
    """The answers of one line, a list for each call."""
    flat = [number for call in calls for number in call]
    before = list(flat)
    told = answers(flat)
    assert flat == before, "the list handed in was changed"
    assert type(told) is list and all(type(number) is int for number in told)
    found = split_answers(told)
    assert len(found) == len(calls), (len(found), len(calls))
    return found


def one(call):
    return ask(call)[0]


def pattern(size, seed=1):
    return [(seed * 37 + i * i * 11 + i * 5 + (i >> 3)) & 255 for i in range(size)]


def cuts(data, size):
    return [data[at:at + size] for at in range(0, len(data), size)]


def remainder(number, modulus):
    top = modulus.bit_length()
    while number.bit_length() >= top:
        number ^= modulus << (number.bit_length() - top)
    return number


def model_product(a, b):
    whole = 0
    for i in range(b.bit_length()):
        if b >> i & 1:
            whole ^= a << i
    return remainder(whole, FIELD_POLYNOMIAL)


def model_power(base, exponent):
    result = 1
    for bit in bin(exponent)[2:]:
        result = model_product(result, result)
        if bit == "1":
            result = model_product(result, base)
    return result


def mirrored(number):
    return int(f"{number:032b}"[::-1], 2)


def model_crc(data, before=0):
    """The check by one long division; the highest power is the first bit."""
    bits = "".join(f"{byte:08b}"[::-1] for byte in data)
    start = mirrored(before ^ 0xFFFFFFFF) << len(bits)
    whole = (int(bits or "0", 2) << 32) ^ start
    return mirrored(remainder(whole, CRC_POLYNOMIAL)) ^ 0xFFFFFFFF


def model_crc_join(a, b, n):
    return mirrored(remainder(mirrored(a) << (8 * n), CRC_POLYNOMIAL)) ^ b


def model_sum(key, data):
    """The sum as one polynomial in the key, term by term."""
    blocks = [int.from_bytes(bytes(block), "little") for block in cuts(data, 8)]
    total = model_product(len(data), key)
    for back, block in enumerate(reversed(blocks)):
        total ^= model_product(block, model_power(key, back + 2))
    return total


def model_sum_join(na, nb, key, a, b):
    if na % 8 or key == 0:
        return 0
    # a h^k less what its own length gave, and the whole's length anew.
    k = -(-nb // 8)
    moved = model_product(a ^ model_product(na, key), model_power(key, k))
    return moved ^ b ^ model_product(nb ^ (na + nb), key)
