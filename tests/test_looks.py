"""Promise 4, as far as words, twos, sums, tilt, strength and uneven."""

import unittest

from lines import ask, last, puts

TOP = 2147483647
LOOKS = (("words",), ("twos",), ("sums",), ("tilt", 3), ("strength",), ("uneven",))


def look(bits, words, *call):
    if len(words) == 2 ** bits:
        return last(("begin", bits, 1), ("rest",), call)
    return last(("begin", bits, 1), *puts(*words), call)


class Looks(unittest.TestCase):
    def test_words_rising(self):
        self.assertEqual([0], look(3, [], "words"))
        self.assertEqual([4, 0, 2, 5, 7], look(3, [5, 7, 0, 2], "words"))
        self.assertEqual([4, 0, 1, 2, 3], look(2, range(4), "words"))

    def test_twos(self):
        self.assertEqual([4, 0, 0, 0, 0], look(3, [], "twos"))
        self.assertEqual([4, 1, 0, 0, 0], look(3, [6], "twos"))
        self.assertEqual([4, 3, 2, 2, 2], look(3, [0, 1, 6], "twos"))
        self.assertEqual([4, 4, 0, 12, 0], look(3, [1, 2, 4, 7], "twos"))
        self.assertEqual([4, 8, 24, 24, 8], look(3, range(8), "twos"))
        self.assertEqual([2, 2, 2], look(1, range(2), "twos"))
        self.assertEqual([7, 64, 384, 960, 1280, 960, 384, 64], look(6, range(64), "twos"))

    def test_sums(self):
        self.assertEqual([4, 0, 0, 0, 0], look(3, [], "sums"))
        self.assertEqual([4, 1, 3, 3, 1], look(3, [6], "sums"))
        self.assertEqual([4, 4, 0, 12, 0], look(3, [0, 7], "sums"))
        self.assertEqual([4, 16, 0, 0, 16], look(3, [1, 2, 4, 7], "sums"))
        self.assertEqual([4, 9, 3, 11, 1], look(3, [0, 1, 6], "sums"))
        self.assertEqual([7, 4096, 0, 0, 0, 0, 0, 0], look(6, range(64), "sums"))

    def test_tilt(self):
        self.assertEqual([0, 0], look(3, [], "tilt", 5))
        self.assertEqual([0, 3], look(3, [0, 1, 6], "tilt", 0))
        self.assertEqual([0, 1], look(3, [0, 1, 6], "tilt", 1))
        self.assertEqual([0, -1], look(3, [0, 1, 6], "tilt", 3))
        self.assertEqual([0, 3], look(3, [0, 3, 5], "tilt", 7))
        self.assertEqual([0, -3], look(3, [1, 2, 7], "tilt", 7))
        self.assertEqual([0, 0], look(6, range(64), "tilt", 63))

    def test_tilt_refused(self):
        for bits in range(1, 7):
            self.assertEqual([0, 1], look(bits, [0], "tilt", 2 ** bits - 1))
            self.assertEqual([-22], look(bits, [0], "tilt", 2 ** bits))
            self.assertEqual([-22], look(bits, [], "tilt", TOP))

    def test_strength(self):
        self.assertEqual([3], look(3, [], "strength"))
        self.assertEqual([3], look(3, range(8), "strength"))
        self.assertEqual([0], look(3, [5], "strength"))
        self.assertEqual([1], look(3, [2, 5], "strength"))
        self.assertEqual([2], look(3, [0, 3, 5, 6], "strength"))
        self.assertEqual([0], look(3, [0, 1, 2, 3], "strength"))
        self.assertEqual([5], last(("begin", 6, 2), ("fill",), ("strength",)))

    def test_uneven(self):
        self.assertEqual([-33], look(3, [], "uneven"))
        self.assertEqual([-33], look(3, range(8), "uneven"))
        self.assertEqual([-33], look(6, range(64), "uneven"))
        self.assertEqual([1, 1], look(3, [5], "uneven"))
        self.assertEqual([1, 4], look(3, [0, 1, 2, 3], "uneven"))
        self.assertEqual([2, 3], look(3, [0, 7], "uneven"))
        self.assertEqual([3, 7], look(3, [0, 3, 5, 6], "uneven"))
        self.assertEqual([2, 6], look(3, [0, 1, 6, 7], "uneven"))
        # Uneven on 3 too, which is less than 4, but has two places.
        self.assertEqual([1, 4], look(3, [0, 3], "uneven"))

    def test_no_look_changes_anything(self):
        before = (("begin", 3, 2), *puts(1, 6), ("note", 0, [3]), ("goal", 3), ("put", 7), ("back",))
        behind = (("words",), ("strike", 1), ("again",), ("words",), ("back",), ("back",), ("back",), ("back",))
        expected = ask(*before, *behind)[len(before):]
        self.assertEqual([[2, 1, 6], [-2], [0], [3, 1, 6, 7], [4], [3], [2], [1]], expected)
        for call in LOOKS + (("tilt", 8),):
            self.assertEqual(expected, ask(*before, call, *behind)[len(before) + 1:], call)


if __name__ == "__main__":
    unittest.main()
