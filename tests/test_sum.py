"""sum_open, sum_put, sum_get and sum_join: promises 1, 2, 5 and 6."""

import unittest

from tests.helper import (
    GOLDEN, ZERO, ask, cuts, model_sum, model_sum_join, one, pattern, row, sum_get, sum_join, sum_open, sum_put, text)

KEYS = (0, 1, 2, GOLDEN, 2 ** 63, 2 ** 64 - 1)
MOST = 2 ** 53 - 1


def sum_of(key, data):
    return ask(sum_open(row(key)), sum_put(data), sum_get())[2]


def joined(na, nb, key, a, b):
    return one(sum_join(na, nb, row(key), row(a), row(b)))


class Examples(unittest.TestCase):
    def test_lantern(self):
        self.assertEqual(
            ask(sum_open(row(GOLDEN)), sum_put(b"lantern"), sum_get()), [[0], [7], text(row(0x14FE8B43DF69798E))])

    def test_lantern_work(self):
        self.assertEqual(sum_of(GOLDEN, b"lantern\x01work"), text(row(0xB24DF7AAA671F212)))

    def test_lantern_work_joined(self):
        first = sum_of(GOLDEN, b"lantern\x01")[2:]
        second = sum_of(GOLDEN, b"work")[2:]
        self.assertEqual(
            one(sum_join(8, 4, row(GOLDEN), first, second)), text(row(0xB24DF7AAA671F212)))


class Sum(unittest.TestCase):
    def test_against_the_model(self):
        for key in KEYS:
            for size in (0, 1, 7, 8, 9, 15, 16, 17, 64, 100):
                data = pattern(size, key & 255)
                self.assertEqual(sum_of(key, data), text(row(model_sum(key, data))))

    def test_longest(self):
        data = pattern(4000)
        self.assertEqual(sum_of(GOLDEN, data), text(row(model_sum(GOLDEN, data))))

    def test_nothing_put(self):
        self.assertEqual(ask(sum_open(row(GOLDEN)), sum_get()), [[0], text(ZERO)])
        self.assertEqual(ask(sum_open(row(GOLDEN)), sum_put([]), sum_get()), [[0], [0], text(ZERO)])

    def test_noughts_count(self):
        told = [sum_of(GOLDEN, [0] * size) for size in (0, 1, 7, 8, 9)]
        self.assertEqual(len({tuple(answer) for answer in told}), 5)

    def test_cut_at_two_places(self):
        data = pattern(40)
        whole = sum_of(GOLDEN, data)
        for first in range(0, 41):
            for second in range(first, 41, 3):
                told = ask(sum_open(row(GOLDEN)), sum_put(data[:first]), sum_put(data[first:second]),
                           sum_put(data[second:]), sum_get())
                self.assertEqual(told, [[0], [first], [second], [40], whole])

    def test_many_pieces(self):
        for size in (1, 3, 7, 8, 9, 16, 25):
            data = pattern(50 * size)
            told = ask(sum_open(row(3)), *[sum_put(piece) for piece in cuts(data, size)], sum_put([]), sum_get())
            self.assertEqual(told[1:51], [[size * (at + 1)] for at in range(50)])
            self.assertEqual(told[51:], [[50 * size], text(row(model_sum(3, data)))])

    def test_asked_in_the_middle(self):
        data = pattern(29)
        calls = [sum_open(row(GOLDEN))]
        expected = [[0]]
        for at in range(29):
            calls += [sum_put(data[at:at + 1]), sum_get()]
            expected += [[at + 1], text(row(model_sum(GOLDEN, data[:at + 1])))]
        self.assertEqual(ask(*calls, sum_get()), expected + [expected[-1]])

    def test_begun_anew(self):
        told = ask(sum_open(row(5)), sum_put(pattern(11)), sum_open(row(GOLDEN)), sum_get(), sum_put(b"lantern"),
                   sum_get(), sum_open(row(GOLDEN)), sum_put(b"lantern"), sum_get())
        lantern = text(row(0x14FE8B43DF69798E))
        self.assertEqual(told, [[0], [11], [0], text(ZERO), [7], lantern, [0], [7], lantern])


class Joined(unittest.TestCase):
    def test_is_the_whole(self):
        for key in KEYS[1:]:
            for na in (0, 8, 16, 80):
                for nb in (0, 1, 7, 8, 9, 16, 33):
                    first, second = pattern(na, 6), pattern(nb, 7)
                    a, b = sum_of(key, first)[2:], sum_of(key, second)[2:]
                    self.assertEqual(one(sum_join(na, nb, row(key), a, b)), sum_of(key, first + second))

    def test_longest_message(self):
        data = pattern(4000, 9)
        for cut in (0, 8, 2000, 3992, 4000):
            a, b = sum_of(GOLDEN, data[:cut])[2:], sum_of(GOLDEN, data[cut:])[2:]
            self.assertEqual(one(sum_join(cut, 4000 - cut, row(GOLDEN), a, b)), sum_of(GOLDEN, data))

    def test_no_multiple_of_eight(self):
        for na in (1, 4, 7, 9, 15, MOST, MOST - 1, MOST - 6):
            self.assertEqual(joined(na, 8, GOLDEN, 5, 6), text(ZERO))
        self.assertNotEqual(joined(MOST - 7, 8, GOLDEN, 5, 6), text(ZERO))
        self.assertNotEqual(joined(8, 7, GOLDEN, 5, 6), text(ZERO))

    def test_key_nought(self):
        for na in (0, 5, 8):
            self.assertEqual(joined(na, 9, 0, 5, 6), text(ZERO))

    def test_any_sums_and_sizes(self):
        for key in KEYS:
            for na in (0, 8, 4000, 2 ** 32, 2 ** 52, MOST - 7, MOST):
                for nb in (0, 1, 7, 8, 4001, 2 ** 32 + 1, MOST - 7, MOST - 6, MOST):
                    for a, b in ((0, 0), (1, 2 ** 64 - 1), (GOLDEN, 0x0123456789ABCDEF)):
                        expected = model_sum_join(na, nb, key, a, b)
                        self.assertEqual(joined(na, nb, key, a, b), text(row(expected)))


class Refused(unittest.TestCase):
    def test_key(self):
        for size in (0, 1, 7, 9, 16, 5000):
            self.assertEqual(ask(sum_open(pattern(size)), sum_put([]), sum_get()), [[-1], [-9], [-9]])
        self.assertEqual(ask(sum_open(pattern(8)), sum_put([])), [[0], [0]])

    def test_refused_key_changes_nothing(self):
        told = ask(sum_open(row(GOLDEN)), sum_put(b"lan"), sum_open(pattern(7)), sum_put(b"tern"), sum_open([]),
                   sum_open(pattern(9)), sum_get())
        self.assertEqual(told, [[0], [3], [-1], [7], [-1], [-1], text(row(0x14FE8B43DF69798E))])

    def test_not_begun(self):
        for size in (0, 1, 4000, 4001, 5000):
            self.assertEqual(one(sum_put(pattern(size))), [-9])
        self.assertEqual(ask(sum_get(), sum_put([1]), sum_get(), sum_open(row(3)), sum_get()),
                         [[-9], [-9], [-9], [0], text(ZERO)])

    def test_too_much_at_once(self):
        expected = text(row(model_sum(GOLDEN, b"lantern")))
        for size in (4001, 5000):
            self.assertEqual(
                ask(sum_open(row(GOLDEN)), sum_put(pattern(size)), sum_put(b"lantern"), sum_get()),
                [[0], [-7], [7], expected])
        self.assertEqual(ask(sum_open(row(GOLDEN)), sum_put(pattern(4000))), [[0], [4000]])

    def test_too_much_added_up(self):
        data = pattern(4000)
        told = ask(sum_open(row(GOLDEN)), sum_put(data[:3997]), sum_put([9] * 4), sum_put([9] * 4000),
                   sum_put(data[3997:]), sum_get(), sum_put([1]), sum_put([]), sum_get())
        whole = text(row(model_sum(GOLDEN, data)))
        self.assertEqual(told, [[0], [3997], [-7], [-7], [4000], whole, [-7], [4000], whole])

    def test_room_again_when_begun_anew(self):
        told = ask(sum_open(row(2)), sum_put(pattern(4000)), sum_put([1]), sum_open(row(2)), sum_put([1]))
        self.assertEqual(told, [[0], [4000], [-7], [0], [1]])

    def test_joined_rows(self):
        good = pattern(8)
        for size in (0, 1, 7, 9, 16, 4000):
            bad = pattern(size)
            for rows in ((bad, good, good), (good, bad, good), (good, good, bad), (bad, bad, bad)):
                # A row of another size is refused before na or the key count.
                for na in (0, 3, 8):
                    self.assertEqual(one(sum_join(na, 1, *rows)), [-1])
        self.assertEqual(one(sum_join(0, 1, ZERO, pattern(7), good)), [-1])
        self.assertEqual(one(sum_join(8, 1, good, good, good))[:2], [0, 8])

    def test_joining_leaves_the_sum(self):
        told = ask(sum_open(row(GOLDEN)), sum_put(b"lantern"), sum_join(8, 8, row(3), row(4), row(5)),
                   sum_join(8, 8, [], row(4), row(5)), sum_get())
        self.assertEqual(told[3:], [[-1], text(row(0x14FE8B43DF69798E))])


if __name__ == "__main__":
    unittest.main()
