"""Promise 6: evenly, in_the_way, radius and reach."""

import unittest

from lines import TOP, ask, last, look, puts


class Evenly(unittest.TestCase):
    def test_no_words_and_all_words(self):
        for bits in range(1, 7):
            ball = 0
            several = 1
            for r in range(bits + 1):
                ball += several
                several = several * (bits - r) // (r + 1)
                self.assertEqual([0], look(bits, [], "evenly", r))
                self.assertEqual([ball], look(bits, range(2 ** bits), "evenly", r), (bits, r))

    def test_one_word(self):
        self.assertEqual([[-33], [-33], [-33], [1]],
                         ask(("begin", 3, 1), ("put", 5), *[("evenly", r) for r in range(4)])[2:])

    def test_once_and_twice(self):
        self.assertEqual([1], look(3, [0, 7], "evenly", 1))
        self.assertEqual([2], look(3, [0, 1, 6, 7], "evenly", 1))
        self.assertEqual([-33], look(3, [0, 1, 6, 7], "evenly", 2))
        self.assertEqual([4], look(3, [0, 1, 6, 7], "evenly", 3))
        self.assertEqual([-33], look(3, [0, 1, 6, 7], "evenly", 0))
        self.assertEqual([-33], look(3, [0, 1, 2, 7], "evenly", 1))

    def test_r_above_the_bits(self):
        for bits in range(1, 7):
            for words in ([], [0]):
                self.assertEqual([-22], look(bits, words, "evenly", bits + 1))
                self.assertEqual([-22], look(bits, words, "evenly", TOP))
            self.assertEqual([1], look(bits, [0], "evenly", bits))


class InTheWay(unittest.TestCase):
    def test_of_one_word(self):
        self.assertEqual([7, 1, 2, 3, 4, 5, 6, 7], look(3, [5], "in_the_way", 0))
        self.assertEqual([4, 1, 2, 4, 7], look(3, [5], "in_the_way", 1))
        self.assertEqual([7, 1, 2, 3, 4, 5, 6, 7], look(3, [5], "in_the_way", 2))
        self.assertEqual([0], look(3, [5], "in_the_way", 3))

    def test_of_several(self):
        self.assertEqual([3, 3, 5, 6], look(3, [0, 7], "in_the_way", 0))
        self.assertEqual([0], look(3, [0, 7], "in_the_way", 1))
        self.assertEqual([3, 3, 5, 6], look(3, [0, 7], "in_the_way", 2))
        self.assertEqual([1, 7], look(3, [1, 2, 4, 7], "in_the_way", 1))
        self.assertEqual([0], look(3, [0, 1, 6, 7], "in_the_way", 1))

    def test_no_words_and_all_words(self):
        for bits in range(1, 7):
            for r in range(bits + 1):
                self.assertEqual([0], look(bits, [], "in_the_way", r))
                self.assertEqual([0], look(bits, range(2 ** bits), "in_the_way", r))

    def test_r_above_the_bits(self):
        for bits in range(1, 7):
            for words in ([], [0]):
                self.assertEqual([-22], look(bits, words, "in_the_way", bits + 1))
                self.assertEqual([-22], look(bits, words, "in_the_way", TOP))
            self.assertEqual([0], look(bits, [0], "in_the_way", bits))


class Radius(unittest.TestCase):
    def test_the_least_that_covers(self):
        self.assertEqual([1], look(3, [0, 7], "radius"))
        self.assertEqual([2], look(3, [0, 1], "radius"))
        self.assertEqual([1], look(3, [0, 3, 5, 6], "radius"))
        self.assertEqual([1], look(3, [0, 1, 2, 3, 4, 5, 6], "radius"))
        self.assertEqual([3], look(6, [0, 63], "radius"))
        self.assertEqual([2], last(("begin", 6, 3), ("fill",), ("radius",)))

    def test_no_words_one_word_all_words(self):
        for bits in range(1, 7):
            self.assertEqual([-6], look(bits, [], "radius"))
            self.assertEqual([bits], look(bits, [1], "radius"))
            self.assertEqual([0], look(bits, range(2 ** bits), "radius"))


class Reach(unittest.TestCase):
    def test_the_greatest_that_is_apart(self):
        self.assertEqual([1], look(3, [0, 7], "reach"))
        self.assertEqual([0], look(3, [0, 3], "reach"))
        self.assertEqual([0], look(3, [0, 1], "reach"))
        self.assertEqual([2], look(6, [0, 63], "reach"))
        self.assertEqual([2], look(6, [0, 31], "reach"))
        self.assertEqual([1], look(6, [0, 30], "reach"))
        self.assertEqual([1], last(("begin", 6, 3), ("fill",), ("reach",)))

    def test_no_words_one_word_all_words(self):
        for bits in range(1, 7):
            self.assertEqual([bits], look(bits, [], "reach"))
            self.assertEqual([bits], look(bits, [1], "reach"))
            self.assertEqual([0], look(bits, range(2 ** bits), "reach"))

    def test_by_half_the_least_distance(self):
        for other in range(1, 64):
            least, reach = ask(("begin", 6, 1), *puts(0, other), ("least",), ("reach",))[-2:]
            self.assertEqual([(least[0] - 1) // 2], reach, other)


if __name__ == "__main__":
    unittest.main()
