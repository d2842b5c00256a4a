"""Promise 1: begin, back, again, and what a change is."""

import unittest

from lines import ask, last, puts

FULL = ("begin", 3, 2)


class Begin(unittest.TestCase):
    def test_bits_and_goals(self):
        for bits in range(9):
            for d in range(9):
                so = 1 <= bits <= 6 and 1 <= d <= bits
                self.assertEqual([0 if so else -22], last(("begin", bits, d)), (bits, d))
        self.assertEqual([-22], last(("begin", 2147483647, 1)))
        self.assertEqual([-22], last(("begin", 1, 2147483647)))

    def test_no_words_and_all_that_there_can_be(self):
        self.assertEqual([0], last(("begin", 6, 6), ("words",)))
        self.assertEqual([64], last(("begin", 6, 6), ("rest",)))
        self.assertEqual([2, 0, 1], last(("begin", 1, 1), ("rest",), ("words",)))

    def test_the_goal_is_as_told(self):
        self.assertEqual([5], last(("begin", 6, 5), ("goal", 1)))

    def test_begun_anew(self):
        found = ask(FULL, ("put", 5), ("note", 4, []), ("note", 0, [1]), ("put", 4), ("back",), ("begin", 4, 3),
                    ("words",), ("strike", 0), ("back",), ("again",), ("put", 15), ("goal", 1))
        self.assertEqual([[0], [0], [-2], [-2], [-2], [1], [3]], found[6:])

    def test_a_refused_begin_changes_nothing(self):
        for wrong in (("begin", 0, 1), ("begin", 7, 1), ("begin", 3, 0), ("begin", 3, 4)):
            found = ask(FULL, ("put", 5), ("note", 0, [3]), ("put", 7), ("back",), wrong,
                        ("words",), ("again",), ("words",), ("back",), ("strike", 0), ("put", 8), ("goal", 3))
            self.assertEqual([[-22], [1, 5], [0], [2, 5, 7], [2], [0], [-22], [2]], found[5:])


class BackAndAgain(unittest.TestCase):
    def test_nothing_to_take_back_or_do_again(self):
        self.assertEqual([[0], [-2], [-2]], ask(FULL, ("back",), ("again",)))
        self.assertEqual([[1], [-2]], ask(FULL, ("put", 0), ("again",))[1:])

    def test_how_many_can_still_be(self):
        found = ask(FULL, *puts(1, 2, 4), ("back",), ("back",), ("back",), ("back",), ("words",),
                    ("again",), ("words",), ("again",), ("again",), ("again",), ("words",), ("back",), ("words",))
        self.assertEqual([[2], [1], [0], [-2], [0], [2], [1, 1], [1], [0], [-2], [3, 1, 2, 4], [2], [2, 1, 2]],
                         found[4:])

    def test_each_change_is_one(self):
        begun = (FULL, ("put", 3), ("note", 0, [3]), ("note", 1, [0]))
        changes = (("put", 7), ("take", 3), ("rest",), ("move", 1), ("swap", 0, 2), ("close",), ("fill",), ("goal", 1),
                   ("note", 2, [3]), ("strike", 1))
        for change in changes:
            found = ask(*begun, change, ("back",), ("words",), ("goal", 2), ("strike", 1), ("strike", 0), ("strike", 0))
            self.assertEqual([[3], [1, 3], [2], [1], [0], [-2]], found[5:], change)

    def test_changes_that_alter_nothing_are_changes_too(self):
        for change in (("move", 0), ("swap", 1, 1), ("close",), ("fill",), ("goal", 2)):
            found = ask(FULL, *puts(0, 3, 5, 6), change, ("back",), ("words",), ("back",), ("words",))
            self.assertEqual([[4], [4, 0, 3, 5, 6], [3], [3, 0, 3, 5]], found[6:], change)

    def test_a_change_lets_nothing_be_done_again(self):
        for change in (("put", 7), ("take", 1), ("rest",), ("move", 0), ("swap", 0, 0), ("close",), ("fill",),
                       ("goal", 2), ("note", 0, [1]), ("strike", 0)):
            found = ask(FULL, ("put", 1), ("note", 1, [0]), ("put", 4), ("back",), change, ("again",), ("back",),
                        ("words",))
            self.assertEqual([[-2], [2], [1, 1]], found[6:], change)

    def test_refusals_and_looks_leave_it_to_be_done_again(self):
        for call in (("put", 1), ("put", 8), ("take", 5), ("take", 9), ("move", 8), ("swap", 3, 0), ("goal", 4),
                     ("note", 6, []), ("note", 4, []), ("note", 1, [0]), ("strike", 1), ("words",), ("twos",),
                     ("sums",), ("tilt", 1), ("tilt", 8), ("strength",), ("uneven",), ("begin", 7, 7)):
            found = ask(FULL, ("put", 1), ("note", 1, [0]), ("put", 4), ("back",), call, ("again",), ("words",),
                        ("back",), ("back",), ("back",), ("back",))
            self.assertEqual([[0], [2, 1, 4], [2], [1], [0], [-2]], found[6:], call)

    def test_eleven_changes_taken_back(self):
        eleven = puts(0, 1, 2, 3, 4, 5, 6, 7, 8, 9, 10)
        found = ask(("begin", 4, 1), *eleven, *[("back",)] * 11, ("words",), *[("again",)] * 11, ("words",))
        counts = [[number] for number in range(9, -1, -1)]
        self.assertEqual(counts + [[-2], [1, 0]] + counts + [[-2], [11, 0, 1, 2, 3, 4, 5, 6, 7, 8, 9, 10]], found[12:])

    def test_just_ten_changes_taken_back(self):
        found = ask(("begin", 4, 1), *puts(0, 1, 2, 3, 4, 5, 6, 7, 8, 9), *[("back",)] * 11, ("words",))
        self.assertEqual([[0], [-2], [0]], found[-3:])

    def test_ten_again_behind_some_taken_back(self):
        found = ask(("begin", 4, 1), *puts(0, 1, 2, 3, 4, 5, 6, 7, 8, 9, 10), ("back",), ("back",),
                    *puts(11, 12, 13), *[("back",)] * 11, ("words",))
        self.assertEqual([[9], [8], [7], [6], [5], [4], [3], [2], [1], [0], [-2], [2, 0, 1]], found[-12:])

    def test_lines_come_back_and_go_again(self):
        found = ask(FULL, ("put", 0), ("note", 0, [3]), ("note", 4, []), ("note", 1, [0]), ("put", 1), ("strike", 2),
                    ("back",), ("note", 0, [3]), ("strike", 2), ("back",), ("back",), ("note", 0, [3]), ("note", 4, []),
                    ("strike", 3))
        self.assertEqual([[2, 0], [-2], [4], [-17], [2]], found[5:10])
        self.assertEqual([[4], [3], [-17], [-17], [-2]], found[10:])

    def test_what_is_done_again_is_as_it_was(self):
        found = ask(FULL, ("put", 0), ("note", 0, [3]), ("goal", 3), ("put", 1), ("back",), ("back",), ("again",),
                    ("again",), ("words",), ("strike", 0), ("goal", 1))
        self.assertEqual([[3], [2], [1], [0], [2, 0, 1], [-2], [3]], found[5:])


if __name__ == "__main__":
    unittest.main()
