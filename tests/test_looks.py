"""Promise 4: words, twos, sums, tilt, strength, uneven, least, off, mend and held; of promise 5, more."""

import unittest

from lines import LOOKS, TOP, ask, last, look, puts


class Looks(unittest.TestCase):
    def test_words_rising(self):
        self.assertEqual([0], look(3, [], "words"))
        self.assertEqual([4, 0, 2, 5, 7], look(3, [5, 7, 0, 2], "words"))
        self.assertEqual([4, 0, 1, 2, 3], look(2, range(4), "words"))

    def test_twos(self):
        self.assertEqual([4, 0, 0, 0, 0], look(3, [], "twos"))
        self.assertEqual([4, 1, 0, 0, 0], look(3, [6], "twos"))
        self.assertEqual([4, 3, 2, 2, 2], look(3, [0, 1, 6], "twos"))
        self.assertEqual([4, 4, 0, 12, 0], look(3, [1, 2, 4, 7], "twos"))
        self.assertEqual([4, 8, 24, 24, 8], look(3, range(8), "twos"))
        self.assertEqual([2, 2, 2], look(1, range(2), "twos"))
        self.assertEqual([7, 64, 384, 960, 1280, 960, 384, 64], look(6, range(64), "twos"))

    def test_sums(self):
        self.assertEqual([4, 0, 0, 0, 0], look(3, [], "sums"))
        self.assertEqual([4, 1, 3, 3, 1], look(3, [6], "sums"))
        self.assertEqual([4, 4, 0, 12, 0], look(3, [0, 7], "sums"))
        self.assertEqual([4, 16, 0, 0, 16], look(3, [1, 2, 4, 7], "sums"))
        self.assertEqual([4, 9, 3, 11, 1], look(3, [0, 1, 6], "sums"))
        self.assertEqual([7, 4096, 0, 0, 0, 0, 0, 0], look(6, range(64), "sums"))

    def test_tilt(self):
        self.assertEqual([0, 0], look(3, [], "tilt", 5))
        self.assertEqual([0, 3], look(3, [0, 1, 6], "tilt", 0))
        self.assertEqual([0, 1], look(3, [0, 1, 6], "tilt", 1))
        self.assertEqual([0, -1], look(3, [0, 1, 6], "tilt", 3))
        self.assertEqual([0, 3], look(3, [0, 3, 5], "tilt", 7))
        self.assertEqual([0, -3], look(3, [1, 2, 7], "tilt", 7))
        self.assertEqual([0, 0], look(6, range(64), "tilt", 63))

    def test_tilt_refused(self):
        for bits in range(1, 7):
            self.assertEqual([0, 1], look(bits, [0], "tilt", 2 ** bits - 1))
            self.assertEqual([-22], look(bits, [0], "tilt", 2 ** bits))
            self.assertEqual([-22], look(bits, [], "tilt", TOP))

    def test_strength(self):
        self.assertEqual([3], look(3, [], "strength"))
        self.assertEqual([3], look(3, range(8), "strength"))
        self.assertEqual([0], look(3, [5], "strength"))
        self.assertEqual([1], look(3, [2, 5], "strength"))
        self.assertEqual([2], look(3, [0, 3, 5, 6], "strength"))
        self.assertEqual([0], look(3, [0, 1, 2, 3], "strength"))
        self.assertEqual([5], last(("begin", 6, 2), ("fill",), ("strength",)))

    def test_uneven(self):
        self.assertEqual([-33], look(3, [], "uneven"))
        self.assertEqual([-33], look(3, range(8), "uneven"))
        self.assertEqual([-33], look(6, range(64), "uneven"))
        self.assertEqual([1, 1], look(3, [5], "uneven"))
        self.assertEqual([1, 4], look(3, [0, 1, 2, 3], "uneven"))
        self.assertEqual([2, 3], look(3, [0, 7], "uneven"))
        self.assertEqual([3, 7], look(3, [0, 3, 5, 6], "uneven"))
        self.assertEqual([2, 6], look(3, [0, 1, 6, 7], "uneven"))
        # Uneven on 3 too, which is less than 4, but has two places.
        self.assertEqual([1, 4], look(3, [0, 3], "uneven"))

    def test_least(self):
        self.assertEqual([-33], look(3, [], "least"))
        self.assertEqual([-33], look(3, [5], "least"))
        self.assertEqual([3], look(3, [1, 6], "least"))
        self.assertEqual([2], look(3, [0, 3, 5, 6], "least"))
        self.assertEqual([1], look(3, [0, 1, 6], "least"))
        self.assertEqual([1], look(1, range(2), "least"))
        self.assertEqual([6], look(6, [0, 63], "least"))
        self.assertEqual([1], look(6, range(64), "least"))

    def test_least_whatever_the_goal(self):
        self.assertEqual([1], look(3, [6, 7], "least", goal=3))

    def test_off(self):
        four = [0, 3, 5, 6]
        self.assertEqual([0, 1], look(3, four, "off", 3))
        self.assertEqual([1, 3], look(3, four, "off", 1))
        self.assertEqual([1, 3], look(3, four, "off", 7))
        self.assertEqual([3, 1], look(3, [7], "off", 0))
        self.assertEqual([2, 2], look(3, [5, 6], "off", 0))
        self.assertEqual([1, 1], look(3, [2, 5, 6], "off", 0))
        self.assertEqual([0, 1], look(6, range(64), "off", 63))

    def test_mend(self):
        four = [0, 3, 5, 6]
        self.assertEqual([3, 0, 1], look(3, four, "mend", 3))
        self.assertEqual([0, 1, 3], look(3, four, "mend", 1))
        self.assertEqual([3, 1, 3], look(3, four, "mend", 7))
        self.assertEqual([7, 3, 1], look(3, [7], "mend", 0))
        self.assertEqual([5, 2, 2], look(3, [6, 5], "mend", 0))
        self.assertEqual([2, 1, 1], look(3, [6, 5, 2], "mend", 0))
        self.assertEqual([63, 0, 1], look(6, range(64), "mend", 63))

    def test_off_and_mend_refused(self):
        for bits in range(1, 7):
            for name in ("off", "mend"):
                self.assertEqual([-6], look(bits, [], name, 2 ** bits - 1))
                self.assertEqual([-22], look(bits, [], name, 2 ** bits))
                self.assertEqual([-22], look(bits, [0], name, 2 ** bits))
                self.assertEqual([-22], look(bits, [0], name, TOP))
            self.assertEqual([bits, 1], look(bits, [0], "off", 2 ** bits - 1))
            self.assertEqual([0, bits, 1], look(bits, [0], "mend", 2 ** bits - 1))

    def test_held(self):
        self.assertEqual([-6], look(3, [], "held"))
        self.assertEqual([4, 1, 1, 0, 1, 0, 1, 0, 1], look(3, [6], "held"))
        self.assertEqual([4, 1, 1, 2, 3, 2, 3, 2, 3], look(3, [0, 1, 6], "held"))
        self.assertEqual([4, 1, 1, 1, 1, 3, 2, 1, 2], look(3, [0, 1, 5, 6], "held"))
        self.assertEqual([4, 1, 1, 3, 1, 3, 1, 1, 1], look(3, range(8), "held"))
        self.assertEqual([2, 1, 1, 1, 1], look(1, range(2), "held"))

    def test_more(self):
        self.assertEqual([8, 0, 1, 2, 3, 4, 5, 6, 7], look(3, [], "more", goal=3))
        self.assertEqual([6, 1, 2, 3, 4, 5, 6], look(3, [7, 0], "more", goal=1))
        self.assertEqual([4, 3, 5, 6, 7], look(3, [0], "more", goal=2))
        self.assertEqual([1, 7], look(3, [0], "more", goal=3))
        self.assertEqual([2, 5, 6], look(3, [3, 0], "more", goal=2))
        self.assertEqual([0], look(3, [0, 1], "more", goal=3))
        self.assertEqual([0], look(3, range(8), "more", goal=1))

    def test_more_by_the_goal_as_it_is_by_then(self):
        self.assertEqual([[1, 7], [3], [4, 3, 5, 6, 7], [1], [1, 7]],
                         ask(("begin", 3, 3), ("put", 0), ("more",), ("goal", 2), ("more",), ("back",), ("more",))[2:])

    def test_more_of_filled_words(self):
        for bits in range(1, 7):
            for goal in range(1, bits + 1):
                self.assertEqual([0], last(("begin", bits, goal), ("put", 1), ("fill",), ("more",)))

    def test_no_look_changes_anything(self):
        before = (("begin", 3, 2), *puts(1, 6), ("note", 0, [3]), ("goal", 3), ("put", 7), ("back",))
        behind = (("words",), ("strike", 1), ("again",), ("words",), ("back",), ("back",), ("back",), ("back",))
        expected = ask(*before, *behind)[len(before):]
        self.assertEqual([[2, 1, 6], [-2], [0], [3, 1, 6, 7], [4], [3], [2], [1]], expected)
        for call in LOOKS:
            self.assertEqual(expected, ask(*before, call, *behind)[len(before) + 1:], call)


if __name__ == "__main__":
    unittest.main()
