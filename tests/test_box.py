"""box_open, box_shown, box_put and box_tag: promises 1, 3 and 6."""

import unittest

from tests.helper import (
    ask, box_open, box_put, box_shown, box_tag, cuts, from_hex, model_seal, one, pattern, seal, text, texts, unseal)

MOST = 2 ** 53 - 1
KEY = [7 * i + 1 for i in range(16)]
LONG_KEY = pattern(32, 5)
NONCE = list(range(40, 52))
SHOWN = list(b"lantern")
MESSAGE = list(b"lanternworklanternwork")
SEALED = from_hex("46c4296c5964fc6d34f4df03ec6f3f895b70af60a06b")
TAG = from_hex("b4f126525cb958e566184bc3cb73fbf9")
OTHER_TAG = TAG[:15] + [TAG[15] ^ 1]


def sealing(*calls):
    """The answers behind that of a box begun for sealing."""
    return ask(box_open(0, KEY, NONCE), *calls)[1:]


def opening(*calls):
    return ask(box_open(1, KEY, NONCE), *calls)[1:]


class AsSealAndUnseal(unittest.TestCase):
    def test_example(self):
        self.assertEqual(sealing(box_shown(SHOWN), box_put(MESSAGE), box_tag()), [[0], text(SEALED), text(TAG)])
        self.assertEqual(opening(box_shown(SHOWN), box_put(SEALED), box_tag(TAG)), [[0], text(MESSAGE), [0]])

    def test_other_tag(self):
        self.assertEqual(opening(box_shown(SHOWN), box_put(SEALED), box_tag(OTHER_TAG)), [[0], text(MESSAGE), [-6]])
        for place in range(16):
            tag = TAG[:place] + [TAG[place] ^ 128] + TAG[place + 1:]
            self.assertEqual(opening(box_shown(SHOWN), box_put(SEALED), box_tag(tag))[2], [-6])

    def test_other_bytes(self):
        for place in range(22):
            sealed = SEALED[:place] + [SEALED[place] ^ 1] + SEALED[place + 1:]
            message = MESSAGE[:place] + [MESSAGE[place] ^ 1] + MESSAGE[place + 1:]
            self.assertEqual(opening(box_shown(SHOWN), box_put(sealed), box_tag(TAG)), [[0], text(message), [-6]])
        for shown in ([], SHOWN[:6], SHOWN + [0], [1] + SHOWN[1:]):
            self.assertEqual(opening(box_shown(shown), box_put(SEALED), box_tag(TAG)), [[0], text(MESSAGE), [-6]])

    def test_against_the_model(self):
        for key in (KEY, LONG_KEY):
            for shown_size in (0, 1, 16, 31):
                for size in (0, 1, 15, 16, 17, 48):
                    shown, message = pattern(shown_size, 2), pattern(size, 3)
                    sealed, tag = model_seal(key, NONCE, shown, message)
                    told = ask(box_open(0, key, NONCE), box_shown(shown), box_put(message), box_tag(),
                               box_open(1, key, NONCE), box_shown(shown), box_put(sealed), box_tag(tag),
                               seal(key, NONCE, shown, message), unseal(key, NONCE, shown, sealed, tag))
                    self.assertEqual(told, [[0], [0], text(sealed), text(tag), [0], [0], text(message), [0],
                                            texts(sealed, tag), text(message)])

    def test_nothing_shown_or_put(self):
        tag = model_seal(KEY, NONCE, [], [])[1]
        self.assertEqual(sealing(box_tag()), [text(tag)])
        self.assertEqual(opening(box_tag(tag)), [[0]])
        self.assertEqual(sealing(box_shown([]), box_put([]), box_tag()), [[0], [0, 0], text(tag)])
        self.assertEqual(opening(box_shown([]), box_put([]), box_tag(tag)), [[0], [0, 0], [0]])
        self.assertEqual(opening(box_tag(TAG)), [[-6]])

    def test_longest(self):
        shown, message = pattern(4000, 6), pattern(4000, 7)
        sealed, tag = model_seal(LONG_KEY, NONCE, shown, message)
        self.assertEqual(
            ask(box_open(0, LONG_KEY, NONCE), box_shown(shown), box_put(message), box_tag()),
            [[0], [0], text(sealed), text(tag)])
        self.assertEqual(
            ask(box_open(1, LONG_KEY, NONCE), box_shown(shown), box_put(sealed), box_tag(tag)),
            [[0], [0], text(message), [0]])


class InPieces(unittest.TestCase):
    def test_cut_at_one_place(self):
        shown, message = pattern(37, 2), pattern(50, 3)
        sealed, tag = model_seal(KEY, NONCE, shown, message)
        for cut in range(51):
            at = cut * 37 // 50
            told = sealing(box_shown(shown[:at]), box_shown([]), box_shown(shown[at:]), box_put(message[:cut]),
                           box_put([]), box_put(message[cut:]), box_tag())
            self.assertEqual(told, [[0]] * 3 + [text(sealed[:cut]), [0, 0], text(sealed[cut:]), text(tag)])
            told = opening(box_shown(shown[:at]), box_shown([]), box_shown(shown[at:]), box_put(sealed[:cut]),
                           box_put([]), box_put(sealed[cut:]), box_tag(tag))
            self.assertEqual(told, [[0]] * 3 + [text(message[:cut]), [0, 0], text(message[cut:]), [0]])

    def test_cut_at_two_places(self):
        message = pattern(40, 3)
        sealed, tag = model_seal(KEY, NONCE, [], message)
        for first in range(41):
            for second in range(first, 41, 3):
                told = sealing(box_put(message[:first]), box_put(message[first:second]), box_put(message[second:]),
                               box_tag())
                self.assertEqual(told, [text(sealed[:first]), text(sealed[first:second]), text(sealed[second:]),
                                        text(tag)])

    def test_many_pieces(self):
        for size in (1, 5, 15, 16, 17, 40):
            shown, message = pattern(20 * size, 4), pattern(25 * size, 5)
            sealed, tag = model_seal(LONG_KEY, NONCE, shown, message)
            shows = [box_shown(piece) for piece in cuts(shown, size)]
            for way, data, turned, handed_in, ended in (
                    (0, message, sealed, [], text(tag)), (1, sealed, message, tag, [0])):
                puts = [box_put(piece) for piece in cuts(data, size)]
                told = ask(box_open(way, LONG_KEY, NONCE), *shows, *puts, box_tag(handed_in))
                self.assertEqual(told[:21], [[0]] * 21)
                self.assertEqual(told[21:], [text(piece) for piece in cuts(turned, size)] + [ended])


class Anew(unittest.TestCase):
    def test_begun_anew(self):
        told = ask(box_open(1, LONG_KEY, pattern(12)), box_shown([1]), box_put([2]), box_open(0, KEY, NONCE),
                   box_shown(SHOWN), box_put(MESSAGE), box_tag())
        self.assertEqual(told[3:], [[0], [0], text(SEALED), text(TAG)])

    def test_begun_anew_when_ended(self):
        told = ask(box_open(0, KEY, NONCE), box_tag(), box_open(1, KEY, NONCE), box_shown(SHOWN), box_put(SEALED),
                   box_tag(TAG), box_open(1, KEY, NONCE), box_shown(SHOWN), box_put(SEALED), box_tag(OTHER_TAG),
                   box_open(0, KEY, NONCE), box_shown(SHOWN), box_put(MESSAGE), box_tag())
        self.assertEqual(told[2:], [[0], [0], text(MESSAGE), [0], [0], [0], text(MESSAGE), [-6],
                                    [0], [0], text(SEALED), text(TAG)])

    def test_room_again(self):
        told = sealing(box_shown(pattern(4000)), box_put(pattern(4000)), box_open(0, KEY, NONCE), box_shown(SHOWN),
                       box_put(MESSAGE), box_tag())
        self.assertEqual(told[2:], [[0], [0], text(SEALED), text(TAG)])


class RefusedBeginning(unittest.TestCase):
    def test_way(self):
        for way in (2, 3, 256, MOST):
            self.assertEqual(ask(box_open(way, KEY, NONCE), box_put([])), [[-1], [-9]])

    def test_key(self):
        for way in (0, 1, 2):
            for size in (0, 1, 15, 17, 24, 31, 33, 5000):
                self.assertEqual(ask(box_open(way, pattern(size), NONCE), box_put([])), [[-1], [-9]])
        for size in (16, 32):
            self.assertEqual(ask(box_open(1, pattern(size), NONCE), box_put([])), [[0], [0, 0]])

    def test_nonce(self):
        for way in (0, 1, MOST):
            for size in (0, 1, 11, 13, 16, 5000):
                self.assertEqual(ask(box_open(way, KEY, pattern(size)), box_put([])), [[-1], [-9]])

    def test_leaves_the_former_box(self):
        bad = [box_open(2, KEY, NONCE), box_open(1, KEY[:15], NONCE), box_open(0, KEY, NONCE[:11]),
               box_open(MOST, KEY, NONCE)]
        told = sealing(*bad, box_shown(SHOWN), *bad, box_put(MESSAGE[:9]), *bad, box_put(MESSAGE[9:]), *bad,
                       box_tag(), *bad, box_tag())
        refused = [[-1]] * 4
        self.assertEqual(told, refused + [[0]] + refused + [text(SEALED[:9])] + refused + [text(SEALED[9:])] + refused
                         + [text(TAG)] + refused + [[-3]])


class RefusedNotBegun(unittest.TestCase):
    def test_not_begun(self):
        for size in (0, 1, 15, 16, 17, 4000, 4001, 5000):
            for call in (box_shown, box_put, box_tag):
                self.assertEqual(one(call(pattern(size))), [-9])

    def test_nothing_begun_by_it(self):
        self.assertEqual(ask(box_shown([1]), box_put([1]), box_tag(), box_tag(TAG), box_put([]), box_tag()),
                         [[-9]] * 6)

    def test_begun_afterwards(self):
        told = ask(box_shown([1]), box_put([1]), box_open(0, KEY, NONCE), box_shown(SHOWN), box_put(MESSAGE), box_tag())
        self.assertEqual(told, [[-9], [-9], [0], [0], text(SEALED), text(TAG)])


class RefusedOutOfTurn(unittest.TestCase):
    def test_shown_behind_something_put(self):
        for size in (0, 1, 4000, 4001, 5000):
            self.assertEqual(sealing(box_put(MESSAGE[:3]), box_shown(pattern(size))), [text(SEALED[:3]), [-3]])
            self.assertEqual(opening(box_put(SEALED[:3]), box_shown(pattern(size))), [text(MESSAGE[:3]), [-3]])

    def test_shown_behind_no_bytes_put(self):
        for begun in (sealing, opening):
            for size in (0, 1, 4001):
                self.assertEqual(begun(box_put([]), box_shown(pattern(size))), [[0, 0], [-3]])
                self.assertEqual(begun(box_shown(SHOWN), box_put([]), box_shown(pattern(size))), [[0], [0, 0], [-3]])

    def test_refused_put_is_no_put(self):
        self.assertEqual(sealing(box_shown(SHOWN[:3]), box_put(pattern(4001)), box_shown(SHOWN[3:]), box_put(MESSAGE),
                                 box_tag()), [[0], [-7], [0], text(SEALED), text(TAG)])

    def test_refused_shown_changes_nothing(self):
        told = sealing(box_shown(SHOWN), box_put(MESSAGE[:7]), box_shown([1]), box_shown([]), box_shown(pattern(4001)),
                       box_put(MESSAGE[7:]), box_shown([2]), box_tag())
        self.assertEqual(told, [[0], text(SEALED[:7]), [-3], [-3], [-3], text(SEALED[7:]), [-3], text(TAG)])

    def test_sealing_box_ended(self):
        behind = [box_shown([]), box_shown([1]), box_shown(pattern(4001)), box_put([]), box_put([1]),
                  box_put(pattern(4001)), box_tag(), box_tag(TAG), box_tag([1]), box_tag(pattern(17))]
        for calls in ([], [box_shown(SHOWN)], [box_put(MESSAGE)]):
            self.assertEqual(sealing(*calls, box_tag(), *behind)[len(calls) + 1:], [[-3]] * 10)

    def test_opening_box_ended(self):
        behind = [box_shown([]), box_shown([1]), box_put([]), box_put([1]), box_put(pattern(4001)), box_tag(),
                  box_tag(TAG), box_tag(OTHER_TAG), box_tag(TAG[:15])]
        for tag, answer in ((TAG, [0]), (OTHER_TAG, [-6])):
            told = opening(box_shown(SHOWN), box_put(SEALED), box_tag(tag), *behind)
            self.assertEqual(told[2:], [answer] + [[-3]] * 9)


class RefusedTooMuch(unittest.TestCase):
    def test_shown_at_once(self):
        for begun in (sealing, opening):
            for size in (4001, 5000):
                self.assertEqual(begun(box_shown(pattern(size)), box_shown(pattern(4000)), box_shown([])),
                                 [[-7], [0], [0]])

    def test_shown_added_up(self):
        shown = pattern(4000)
        sealed, tag = model_seal(KEY, NONCE, shown, MESSAGE)
        told = sealing(box_shown(shown[:3997]), box_shown([9] * 4), box_shown(shown[3997:]), box_shown([1]),
                       box_shown([]), box_shown([9] * 4000), box_put(MESSAGE), box_tag())
        self.assertEqual(told, [[0], [-7], [0], [-7], [0], [-7], text(sealed), text(tag)])

    def test_put_at_once(self):
        for begun in (sealing, opening):
            for size in (4001, 5000):
                self.assertEqual(begun(box_put(pattern(size)), box_put(pattern(4000)))[0], [-7])
                self.assertEqual(begun(box_put(pattern(size)), box_put(pattern(4000)))[1][:2], [0, 4000])

    def test_put_added_up(self):
        message = pattern(4000)
        sealed, tag = model_seal(KEY, NONCE, SHOWN, message)
        for begun, data, turned, handed_in, ended in (
                (sealing, message, sealed, [], text(tag)), (opening, sealed, message, tag, [0])):
            told = begun(box_shown(SHOWN), box_put(data[:3997]), box_put([9] * 4), box_put(data[3997:]), box_put([1]),
                         box_put([]), box_put([9] * 4000), box_tag(handed_in))
            self.assertEqual(told, [[0], text(turned[:3997]), [-7], text(turned[3997:]), [-7], [0, 0], [-7], ended])

    def test_each_part_by_itself(self):
        told = sealing(box_shown(pattern(4000)), box_put(pattern(4000)))
        self.assertEqual([answer[0] for answer in told], [0, 0])


class RefusedTag(unittest.TestCase):
    def test_sealing_box_and_some_bytes(self):
        for size in (1, 15, 16, 17, 5000):
            tag = (TAG * 400)[:size]
            told = sealing(box_shown(SHOWN), box_tag(tag), box_put(MESSAGE), box_tag(tag), box_put([]), box_tag())
            self.assertEqual(told, [[0], [-1], text(SEALED), [-1], [0, 0], text(TAG)])

    def test_opening_box_and_not_sixteen(self):
        for size in (0, 1, 12, 15, 17, 32, 5000):
            tag = (TAG * 400)[:size]
            told = opening(box_shown(SHOWN), box_tag(tag), box_put(SEALED), box_tag(tag), box_put([]), box_tag(TAG))
            self.assertEqual(told, [[0], [-1], text(MESSAGE), [-1], [0, 0], [0]])

    def test_refused_tag_is_no_put(self):
        self.assertEqual(sealing(box_tag([1]), box_shown(SHOWN), box_put(MESSAGE), box_tag()),
                         [[-1], [0], text(SEALED), text(TAG)])


if __name__ == "__main__":
    unittest.main()
