"""Promise 2: put, take, rest, move, swap, close and fill, and the lines that are struck behind each."""

import unittest

from lines import TOP, ask, last, puts

BEGIN = ("begin", 3, 2)


class PutAndTake(unittest.TestCase):
    def test_put_counts_the_words(self):
        self.assertEqual([[1], [2], [3], [3, 0, 5, 7]], ask(BEGIN, *puts(5, 0, 7), ("words",))[1:])

    def test_put_refused(self):
        self.assertEqual([[-22], [-22], [1], [-17], [1, 7]],
                         ask(BEGIN, ("put", 8), ("put", TOP), ("put", 7), ("put", 7), ("words",))[1:])

    def test_put_asks_nothing_of_the_goal(self):
        self.assertEqual([2], last(("begin", 3, 3), *puts(0, 1)))

    def test_take_counts_the_words(self):
        self.assertEqual([[2], [2, 1, 4], [1], [0], [0]],
                         ask(BEGIN, *puts(1, 2, 4), ("take", 2), ("words",), ("take", 4), ("take", 1), ("words",))[4:])

    def test_take_refused(self):
        self.assertEqual([[-2], [-22], [-22], [1, 1]],
                         ask(BEGIN, ("put", 1), ("take", 2), ("take", 8), ("take", TOP), ("words",))[2:])
        self.assertEqual([-2], last(BEGIN, ("take", 0)))

    def test_the_last_bit_is_there_and_none_behind_it(self):
        for bits in range(1, 7):
            self.assertEqual([[1], [-22], [0]],
                             ask(("begin", bits, 1), ("put", 2 ** bits - 1), ("put", 2 ** bits), ("take", 2 ** bits - 1))[1:])


class Rest(unittest.TestCase):
    def test_the_others_are_there(self):
        self.assertEqual([[6], [6, 0, 2, 3, 4, 6, 7], [2], [2, 1, 5]],
                         ask(BEGIN, *puts(5, 1), ("rest",), ("words",), ("rest",), ("words",))[3:])

    def test_none_and_all(self):
        self.assertEqual([[8], [8, 0, 1, 2, 3, 4, 5, 6, 7], [0], [0]],
                         ask(BEGIN, ("rest",), ("words",), ("rest",), ("words",))[1:])


class Move(unittest.TestCase):
    def test_each_word_together_with_it(self):
        self.assertEqual([[0], [3, 0, 4, 7]], ask(BEGIN, *puts(1, 2, 5), ("move", 5), ("words",))[4:])

    def test_by_nothing_and_there_and_back(self):
        self.assertEqual([[0], [2, 1, 6]], ask(BEGIN, *puts(1, 6), ("move", 0), ("words",))[3:])
        self.assertEqual([[0], [0], [2, 1, 6]], ask(BEGIN, *puts(1, 6), ("move", 3), ("move", 3), ("words",))[3:])

    def test_no_words_move(self):
        self.assertEqual([[0], [0]], ask(BEGIN, ("move", 7), ("words",))[1:])

    def test_refused(self):
        self.assertEqual([[-22], [-22], [2, 1, 6]], ask(BEGIN, *puts(1, 6), ("move", 8), ("move", TOP), ("words",))[3:])

    def test_moved_so_that_0_is_not_there(self):
        found = ask(BEGIN, *puts(0, 6), ("note", 4, []), ("note", 0, [2]), ("move", 1), ("words",), ("note", 4, []),
                    ("strike", 1), ("strike", 0))
        self.assertEqual([[0, 0], [2, 1, 7], [-13], [-2], [0]], found[5:])


class Swap(unittest.TestCase):
    def test_bits_exchanged_in_each_word(self):
        self.assertEqual([[0], [3, 3, 4, 6]], ask(BEGIN, *puts(1, 3, 6), ("swap", 0, 2), ("words",))[4:])
        self.assertEqual([[0], [3, 3, 4, 6]], ask(BEGIN, *puts(1, 3, 6), ("swap", 2, 0), ("words",))[4:])

    def test_a_bit_with_itself(self):
        self.assertEqual([[0], [2, 1, 6]], ask(BEGIN, *puts(1, 6), ("swap", 1, 1), ("words",))[3:])

    def test_refused(self):
        self.assertEqual([[-2], [-2], [-2], [-2], [-2], [2, 1, 6]],
                         ask(BEGIN, *puts(1, 6), ("swap", 3, 0), ("swap", 0, 3), ("swap", 3, 3), ("swap", TOP, 0),
                             ("swap", 1, TOP), ("words",))[3:])

    def test_no_words_and_outermost_bits(self):
        self.assertEqual([[0], [0]], ask(BEGIN, ("swap", 0, 1), ("words",))[1:])
        self.assertEqual([[0], [2, 1, 62]], ask(("begin", 6, 1), *puts(32, 31), ("swap", 5, 0), ("words",))[3:])


class Close(unittest.TestCase):
    def test_from_no_words(self):
        self.assertEqual([[0], [0]], ask(BEGIN, ("close",), ("words",))[1:])

    def test_from_one_word(self):
        self.assertEqual([[2], [2, 0, 5]], ask(BEGIN, ("put", 5), ("close",), ("words",))[2:])
        self.assertEqual([[1], [1, 0]], ask(BEGIN, ("put", 0), ("close",), ("words",))[2:])

    def test_again_and_again(self):
        self.assertEqual([[4], [4, 0, 3, 5, 6]], ask(BEGIN, *puts(3, 5), ("close",), ("words",))[3:])
        self.assertEqual([8, 0, 1, 6, 7, 10, 11, 12, 13], last(("begin", 4, 1), *puts(13, 1, 7), ("close",), ("words",)))
        self.assertEqual([64], last(("begin", 6, 1), *puts(33, 2, 4, 8, 16, 32), ("close",)))

    def test_closed_already(self):
        self.assertEqual([4], last(BEGIN, *puts(0, 3, 5, 6), ("close",)))
        self.assertEqual([8], last(BEGIN, ("rest",), ("close",)))


class Fill(unittest.TestCase):
    def test_from_none(self):
        self.assertEqual([[4], [4, 0, 3, 5, 6]], ask(BEGIN, ("fill",), ("words",))[1:])
        self.assertEqual([[2], [2, 0, 7]], ask(("begin", 3, 3), ("fill",), ("words",))[1:])
        self.assertEqual([8], last(("begin", 3, 1), ("fill",)))
        self.assertEqual([8, 0, 7, 25, 30, 42, 45, 51, 52], last(("begin", 6, 3), ("fill",), ("words",)))

    def test_behind_words_that_were_put(self):
        self.assertEqual([[2], [2, 1, 6]], ask(("begin", 3, 3), ("put", 1), ("fill",), ("words",))[2:])
        self.assertEqual([[3], [3, 0, 1, 6]], ask(BEGIN, *puts(0, 1), ("fill",), ("words",))[3:])
        self.assertEqual([[4], [4, 1, 2, 4, 7]], ask(BEGIN, ("put", 1), ("fill",), ("words",))[2:])
        self.assertEqual([[2], [2, 0, 7]], ask(BEGIN, ("put", 7), ("fill",), ("words",))[2:])

    def test_filled_already(self):
        self.assertEqual([8], last(BEGIN, ("rest",), ("fill",)))
        self.assertEqual([[4], [4]], ask(BEGIN, ("fill",), ("fill",))[1:])

    def test_by_the_goal_as_it_is_by_then(self):
        self.assertEqual([[2], [3], [2], [2], [8]],
                         ask(("begin", 3, 3), ("fill",), ("goal", 2), ("fill",), ("goal", 1), ("fill",))[1:])


class Struck(unittest.TestCase):
    """Each of the seven strikes the lines that aren't so any more, and tells their numbers as they were."""

    def test_by_a_word_put_in_and_taken_back(self):
        found = ask(BEGIN, ("put", 0), ("note", 3, [3]), ("note", 0, [3]), ("note", 4, []), ("put", 1), ("strike", 2),
                    ("back",), ("note", 0, [3]), ("strike", 2))
        # Every word is hit twice by balls of 3 then; only the distance isn't so any more.
        self.assertEqual([[2, 1], [-2], [4], [-17], [2]], found[5:])

    def test_by_a_word_put_in_and_others_follow(self):
        found = ask(BEGIN, *puts(0, 3), ("note", 0, [2]), ("note", 5, [3]), ("note", 4, []), ("note", 2, [2]),
                    ("note", 1, [0]), ("put", 1), ("strike", 2), ("strike", 1), ("note", 1, [0]), ("strike", 0))
        self.assertEqual([[-13], [1], [2], [3], [3, 0, 1], [-2], [1], [1], [1]], found[4:])

    def test_by_a_word_taken(self):
        found = ask(BEGIN, *puts(0, 7), ("note", 1, [1]), ("note", 0, [3]), ("note", 2, [1]), ("note", 4, []),
                    ("note", 3, [1]), ("note", 5, [4]), ("take", 7), ("strike", 2), ("strike", 1))
        self.assertEqual([[1, 0, 2, 4, 5], [-2], [1]], found[9:])

    def test_by_the_rest(self):
        found = ask(BEGIN, *puts(0, 7), ("note", 1, [1]), ("note", 0, [3]), ("note", 2, [1]), ("note", 4, []),
                    ("note", 3, [1]), ("note", 5, [4]), ("rest",), ("strike", 4))
        self.assertEqual([[6, 1, 3], [-2]], found[9:])

    def test_by_the_rest_of_all(self):
        found = ask(BEGIN, ("rest",), ("note", 2, [0]), ("note", 4, []), ("note", 1, [3]), ("note", 3, [0]),
                    ("note", 0, [1]), ("rest",))
        self.assertEqual([0, 0], found[-1])

    def test_by_bits_exchanged(self):
        found = ask(BEGIN, *puts(0, 1), ("note", 5, [1]), ("note", 5, [0]), ("note", 4, []), ("note", 0, [1]),
                    ("swap", 0, 1), ("note", 5, [2]), ("strike", 4))
        self.assertEqual([[0, 0], [3], [-2]], found[7:])

    def test_by_closing(self):
        found = ask(BEGIN, *puts(3, 4), ("note", 0, [3]), ("note", 1, [1]), ("note", 5, [4]), ("note", 0, [2]), ("close",))
        self.assertEqual([4, 0, 3], found[-1])
        found = ask(BEGIN, ("put", 6), ("note", 0, [3]), ("note", 2, [3]), ("note", 1, [0]), ("close",))
        self.assertEqual([2, 0], found[-1])

    def test_by_filling(self):
        found = ask(BEGIN, *puts(0, 7), ("note", 4, []), ("note", 0, [3]), ("note", 3, [1]), ("note", 1, [1]),
                    ("goal", 1), ("fill",), ("strike", 2))
        self.assertEqual([[8, 1], [2]], found[8:])

    def test_by_a_move_only_closed(self):
        found = ask(BEGIN, *puts(0, 7), ("note", 1, [1]), ("note", 0, [3]), ("note", 2, [1]), ("note", 4, []),
                    ("note", 3, [1]), ("note", 5, [6]), ("move", 7), ("move", 1), ("move", 1))
        self.assertEqual([[0], [0, 3], [0]], found[9:])

    def test_all_eight_at_once(self):
        found = ask(("begin", 6, 1), ("put", 0), *[("note", 0, [e]) for e in (2, 3, 4, 5, 6)], ("note", 2, [6]),
                    ("note", 3, [6]), ("note", 4, []), ("note", 1, [0]), ("rest",), ("back",), ("take", 0))
        self.assertEqual([-28], found[-4])
        self.assertEqual([[63, 0, 1, 2, 3, 4, 7], [9], [0, 5]], found[-3:])

    def test_none_by_what_is_refused(self):
        for call in (("put", 0), ("put", 8), ("take", 5), ("take", 8), ("move", 8), ("swap", 0, 3)):
            found = ask(BEGIN, ("put", 0), ("note", 4, []), ("note", 0, [3]), call, ("strike", 1), ("strike", 0))
            self.assertEqual([[1], [0]], found[5:], call)


if __name__ == "__main__":
    unittest.main()
