"""The calls of one line, read and answered one behind another."""

from lanternchecks.single import aes, crc, crc_join, field_mul, seal, step, sum_join, unseal
from lanternchecks.under_way import Line

CRC = 0
CRC_JOIN = 1
SUM_OPEN = 2
SUM_PUT = 3
SUM_GET = 4
FIELD_MUL = 5
SUM_JOIN = 6
HASH_OPEN = 7
HASH_PUT = 8
HASH_GET = 9
AES = 10
STEP = 11
BOX_OPEN = 12
BOX_SHOWN = 13
BOX_PUT = 14
BOX_TAG = 15
SEAL = 16
UNSEAL = 17

# At each call's number: how many whole numbers it has, then how many rows.
SHAPES = (
    (1, 1),
    (3, 0),
    (0, 1),
    (0, 1),
    (0, 0),
    (0, 2),
    (2, 3),
    (0, 0),
    (0, 1),
    (0, 0),
    (1, 2),
    (1, 2),
    (1, 2),
    (0, 1),
    (0, 1),
    (0, 1),
    (0, 4),
    (0, 5),
)


class Reader:
    """Walks the list of calls from its front; the list stays as it is."""

    def __init__(self, calls):
        self.calls = calls
        self.at = 0

    def has_more(self):
        return self.at < len(self.calls)

    def take_number(self):
        number = self.calls[self.at]
        self.at = self.at + 1
        return number

    def take_row(self):
        size = self.take_number()
        start = self.at
        self.at = start + size
        return self.calls[start:start + size]


def answers(calls):
    """For each call how many numbers it answers, then these."""
    reader = Reader(calls)
    line = Line()
    told = []
    while reader.has_more():
        call = reader.take_number()
        shape = SHAPES[call]
        numbers = [reader.take_number() for at in range(shape[0])]
        rows = [reader.take_row() for at in range(shape[1])]
        answer = answer_of(line, call, numbers, rows)
        told.append(len(answer))
        told.extend(answer)
    return told


def answer_of(line, call, numbers, rows):
    if call == CRC:
        return crc(numbers[0], rows[0])
    if call == CRC_JOIN:
        return crc_join(numbers[0], numbers[1], numbers[2])
    if call == FIELD_MUL:
        return field_mul(rows[0], rows[1])
    if call == SUM_JOIN:
        return sum_join(numbers[0], numbers[1], rows[0], rows[1], rows[2])
    if call == AES:
        return aes(numbers[0], rows[0], rows[1])
    if call == STEP:
        return step(numbers[0], rows[0], rows[1])
    if call == SEAL:
        return seal(rows[0], rows[1], rows[2], rows[3])
    if call == UNSEAL:
        return unseal(rows[0], rows[1], rows[2], rows[3], rows[4])
    return answer_under_way(line, call, numbers, rows)


def answer_under_way(line, call, numbers, rows):
    if call == SUM_OPEN:
        return line.sum_open(rows[0])
    if call == SUM_PUT:
        return line.sum_put(rows[0])
    if call == SUM_GET:
        return line.sum_get()
    if call == HASH_OPEN:
        return line.hash_open()
    if call == HASH_PUT:
        return line.hash_put(rows[0])
    if call == HASH_GET:
        return line.hash_get()
    if call == BOX_OPEN:
        return line.box_open(numbers[0], rows[0], rows[1])
    if call == BOX_SHOWN:
        return line.box_shown(rows[0])
    if call == BOX_PUT:
        return line.box_put(rows[0])
    return line.box_tag(rows[0])
