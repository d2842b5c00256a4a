"""Promise 3: goal, note, strike, so, all_of, report, line and state, and each kind of saying."""

import unittest

from lines import TOP, ask, last, look, puts

BEGIN = ("begin", 3, 2)


class Goal(unittest.TestCase):
    def test_answers_what_it_was(self):
        self.assertEqual([[2], [3], [1], [1]], ask(BEGIN, ("goal", 3), ("goal", 1), ("goal", 1), ("goal", 2))[1:])

    def test_refused(self):
        self.assertEqual([[-22], [-22], [-22], [2]], ask(BEGIN, ("goal", 0), ("goal", 4), ("goal", TOP), ("goal", 3))[1:])

    def test_told_anew_while_words_are_nearer(self):
        found = ask(("begin", 3, 1), *puts(0, 1), ("note", 0, [1]), ("goal", 3), ("words",), ("fill",), ("strike", 1),
                    ("strike", 0))
        self.assertEqual([[1], [2, 0, 1], [2], [-2], [0]], found[4:])

    def test_taken_back(self):
        self.assertEqual([[2], [0], [2], [0]], ask(BEGIN, ("goal", 3), ("back",), ("goal", 1), ("back",))[1:])


class Note(unittest.TestCase):
    def test_the_last_line(self):
        self.assertEqual([[0], [1], [2]], ask(BEGIN, ("note", 0, [3]), ("note", 4, []), ("note", 0, [2]))[1:])

    def test_no_such_kind(self):
        for kind in (6, 7, TOP):
            for its in ([], [0], [1]):
                self.assertEqual([-22], last(BEGIN, ("note", kind, its)), (kind, its))

    def test_its_number_is_not_as_told(self):
        for bits in range(1, 7):
            for kind in (0, 1, 2, 3):
                begun = (("begin", bits, 1), ("put", 0))
                self.assertEqual([-22], last(*begun, ("note", kind, [])), kind)
                self.assertEqual([-22], last(*begun, ("note", kind, [bits + 1])), kind)
                self.assertEqual([-22], last(*begun, ("note", kind, [TOP])), kind)
                self.assertIn(last(*begun, ("note", kind, [bits])), ([0], [-13]), kind)
            self.assertEqual([-22], last(("begin", bits, 1), ("note", 4, [0])))
            self.assertEqual([-22], last(("begin", bits, 1), ("note", 5, [])))
            self.assertEqual([-22], last(("begin", bits, 1), ("note", 5, [2 ** bits])))
            self.assertEqual([0], last(("begin", bits, 1), ("note", 5, [2 ** bits - 1])))

    def test_it_is_not_so(self):
        two = (BEGIN, *puts(0, 1))
        for saying in ((0, [2]), (1, [1]), (2, [0]), (3, [0]), (5, [2])):
            self.assertEqual([[-13], [-2]], ask(*two, ("note", *saying), ("strike", 0))[3:], saying)
        self.assertEqual([-13], last(BEGIN, ("put", 1), ("note", 4, [])))

    def test_it_stands_in_the_report(self):
        found = ask(BEGIN, ("note", 4, []), ("note", 0, [3]), ("note", 4, []), ("note", 0, [3]), ("note", 0, [2]),
                    ("note", 1, [3]), ("strike", 0), ("note", 4, []))
        self.assertEqual([[0], [1], [-17], [-17], [2], [3], [3], [3]], found[1:])

    def test_eight_lines(self):
        eight = [("note", kind, [number]) for kind in (0, 1) for number in range(4)]
        found = ask(BEGIN, *eight, ("note", 3, [0]), ("strike", 0), ("note", 3, [0]))
        self.assertEqual([[number] for number in range(8)] + [[-28], [7], [7]], found[1:])

    def test_which_is_answered_first(self):
        eight = (BEGIN, *[("note", kind, [number]) for kind in (0, 1) for number in range(4)])
        self.assertEqual([-22], last(*eight, ("note", 2, [4])))
        self.assertEqual([-13], last(*eight, ("note", 2, [3])))
        self.assertEqual([-17], last(*eight, ("note", 0, [3])))
        self.assertEqual([-28], last(*eight, ("note", 4, [])))

    def test_taken_back_and_done_again(self):
        found = ask(BEGIN, ("note", 4, []), ("back",), ("strike", 0), ("again",), ("note", 4, []), ("strike", 0),
                    ("note", 4, []))
        self.assertEqual([[0], [0], [-2], [0], [-17], [0], [0]], found[1:])


class Strike(unittest.TestCase):
    def test_how_many_are_left(self):
        three = (BEGIN, ("note", 0, [1]), ("note", 0, [2]), ("note", 0, [3]))
        self.assertEqual([[2], [1], [0], [-2]], ask(*three, *[("strike", 0)] * 4)[4:])
        self.assertEqual([2], last(*three, ("strike", 2)))

    def test_no_such_line(self):
        self.assertEqual([-2], last(BEGIN, ("strike", 0)))
        self.assertEqual([[-2], [-2], [0]], ask(BEGIN, ("note", 4, []), ("strike", 1), ("strike", TOP), ("strike", 0))[2:])

    def test_just_that_line(self):
        for number in range(3):
            notes = [("note", 0, [e]) for e in (1, 2, 3)]
            found = ask(BEGIN, *notes, ("strike", number), *notes)
            expected = [[-17], [-17], [-17]]
            expected[number] = [2]
            self.assertEqual([[2]] + expected, found[4:])

    def test_taken_back_it_stands_where_it_stood(self):
        found = ask(BEGIN, ("put", 0), ("note", 4, []), ("note", 0, [3]), ("note", 1, [0]), ("strike", 1), ("back",),
                    ("put", 1), ("strike", 1), ("note", 1, [0]))
        self.assertEqual([[2], [4], [2, 1], [1], [1]], found[5:])


class So(unittest.TestCase):
    def test_so_and_not(self):
        two = [0, 1]
        for saying in ((0, [1]), (1, [0]), (2, [2]), (3, [3]), (4, []), (5, [1])):
            self.assertEqual([1], look(3, two, "so", *saying), saying)
        for saying in ((0, [2]), (1, [1]), (2, [1]), (3, [2]), (5, [2])):
            self.assertEqual([0], look(3, two, "so", *saying), saying)
        self.assertEqual([0], look(3, [1, 2], "so", 4, []))

    def test_refused_as_note(self):
        for bits in range(1, 7):
            for kind in (0, 1, 2, 3):
                for its in ([], [bits + 1], [TOP]):
                    self.assertEqual([-22], look(bits, [0], "so", kind, its))
                self.assertIn(look(bits, [0], "so", kind, [bits]), ([0], [1]))
            for its in ([], [2 ** bits], [TOP]):
                self.assertEqual([-22], look(bits, [0], "so", 5, its))
            self.assertEqual([0], look(bits, [0], "so", 5, [2 ** bits - 1]))
            self.assertEqual([-22], look(bits, [0], "so", 4, [0]))
            for kind in (6, 7, TOP):
                for its in ([], [0], [1]):
                    self.assertEqual([-22], look(bits, [0], "so", kind, its))

    def test_it_is_not_noted(self):
        found = ask(BEGIN, ("so", 4, []), ("report",), ("note", 4, []), ("so", 4, []), ("report",))
        self.assertEqual([[1], [0], [0], [1], [1]], found[1:])

    def test_it_is_so_with_eight_lines_too(self):
        eight = [("note", kind, [number]) for kind in (0, 1) for number in range(4)]
        self.assertEqual([1], last(BEGIN, *eight, ("so", 4, [])))


class AllOf(unittest.TestCase):
    def test_of_numbers(self):
        self.assertEqual([3, 0, 1, 2], look(3, [0, 3, 5, 6], "all_of", 0))
        self.assertEqual([2, 0, 1], look(3, [1, 6], "all_of", 1))
        self.assertEqual([2, 2, 3], look(3, [4, 5], "all_of", 2))
        self.assertEqual([2, 1, 3], look(3, [0, 1, 6, 7], "all_of", 3))

    def test_of_sets_of_places(self):
        self.assertEqual([4, 0, 1, 2, 4], look(3, [0, 7], "all_of", 5))
        self.assertEqual([4, 0, 1, 2, 3], look(3, [0, 1, 2, 3], "all_of", 5))
        self.assertEqual([1, 0], look(3, [5], "all_of", 5))

    def test_no_words_and_all_words(self):
        for bits in range(1, 7):
            numbers = list(range(bits + 1))
            places = list(range(2 ** bits))
            for kind in (0, 1, 3):
                self.assertEqual([bits + 1] + numbers, look(bits, [], "all_of", kind))
            self.assertEqual([0], look(bits, [], "all_of", 2))
            self.assertEqual([2, 0, 1], look(bits, places, "all_of", 0))
            for kind in (1, 2, 3):
                self.assertEqual([bits + 1] + numbers, look(bits, places, "all_of", kind))
            for words in ([], places):
                self.assertEqual([2 ** bits] + places, look(bits, words, "all_of", 5))

    def test_refused(self):
        for kind in (4, 6, 7, TOP):
            self.assertEqual([-22], look(3, [], "all_of", kind))
            self.assertEqual([-22], look(3, [0, 7], "all_of", kind))

    def test_just_those_that_so_says(self):
        for words in ([], [3], [0, 7], [1, 2, 4, 7], [0, 1, 2]):
            for kind in (0, 1, 2, 3, 5):
                numbers = range(8 if kind == 5 else 4)
                found = [number for number in numbers if look(3, words, "so", kind, [number]) == [1]]
                self.assertEqual([len(found)] + found, look(3, words, "all_of", kind))


class Lines(unittest.TestCase):
    def test_each_line_as_it_was_noted(self):
        notes = [("note", 5, [3]), ("note", 4, []), ("note", 0, [3]), ("note", 1, [0]), ("note", 3, [2]), ("note", 2, [3])]
        found = ask(BEGIN, ("report",), ("put", 1), ("take", 1), *notes[:5], ("put", 0), ("back",), ("report",),
                    *[("line", i) for i in range(6)])
        self.assertEqual([0], found[1])
        self.assertEqual([[5], [5, 3], [4], [0, 3], [1, 0], [3, 2], [-2]], found[-7:])
        self.assertEqual([[0], [1], [2, 3]], ask(BEGIN, ("put", 0), notes[5], ("report",), ("line", 0))[2:])

    def test_no_such_line(self):
        self.assertEqual([[-2], [-2], [0], [4], [-2], [-2]],
                         ask(BEGIN, ("line", 0), ("line", TOP), ("note", 4, []), ("line", 0), ("line", 1),
                             ("line", TOP))[1:])

    def test_those_behind_are_numbered_one_less(self):
        notes = (("note", 0, [3]), ("note", 4, []), ("note", 1, [3]))
        self.assertEqual([[2], [2], [0, 3], [1, 3], [-2]],
                         ask(BEGIN, *notes, ("strike", 1), ("report",), *[("line", i) for i in range(3)])[4:])

    def test_behind_lines_that_are_struck(self):
        found = ask(BEGIN, *puts(0, 7), ("note", 1, [1]), ("note", 0, [3]), ("note", 2, [1]), ("note", 4, []), ("rest",),
                    ("report",), ("line", 0), ("line", 1), ("back",), ("report",), *[("line", i) for i in range(4)])
        self.assertEqual([[6, 1, 3], [2], [1, 1], [2, 1], [6], [4], [1, 1], [0, 3], [2, 1], [4]], found[7:])

    def test_eight_lines(self):
        eight = [("note", kind, [number]) for kind in (0, 1) for number in range(4)]
        found = ask(BEGIN, *eight, ("report",), ("line", 7), ("line", 8), ("note", 4, []), ("report",))
        self.assertEqual([[8], [1, 3], [-2], [-28], [8]], found[9:])


class State(unittest.TestCase):
    def test_all_that_is_there(self):
        found = ask(("begin", 5, 3), ("state",), *puts(0, 31), ("state",), ("note", 4, []), ("note", 0, [5]), ("state",),
                    ("goal", 2), ("state",), ("put", 1), ("state",), ("back",), ("state",), ("begin", 6, 6), ("state",))
        self.assertEqual([[5, 3, 0, 0], [5, 3, 2, 0], [5, 3, 2, 2], [5, 2, 2, 2], [5, 2, 3, 0], [5, 2, 2, 2],
                          [6, 6, 0, 0]], found[1:2] + found[4:5] + found[7:8] + found[9::2])

    def test_all_words(self):
        self.assertEqual([6, 1, 64, 0], look(6, range(64), "state"))


class Sayings(unittest.TestCase):
    """For words that are there just the sayings of each kind that are so."""

    def so(self, bits, words, kind):
        numbers = [[]] if kind == 4 else [[number] for number in range(2 ** bits if kind == 5 else bits + 1)]
        found = []
        for its in numbers:
            answer = last(("begin", bits, 1), *puts(*words), ("note", kind, its))
            self.assertIn(answer, ([0], [-13]))
            if answer == [0]:
                found.extend(its or [True])
        return found

    def test_distances(self):
        self.assertEqual([0, 1, 2, 3], self.so(3, [], 0))
        self.assertEqual([0, 1, 2, 3], self.so(3, [6], 0))
        self.assertEqual([0, 1, 2, 3], self.so(3, [1, 6], 0))
        self.assertEqual([0, 1, 2], self.so(3, [0, 3, 5, 6], 0))
        self.assertEqual([0, 1], self.so(3, [0, 1, 6], 0))

    def test_strengths(self):
        self.assertEqual([0, 1, 2, 3], self.so(3, [], 1))
        self.assertEqual([0, 1, 2, 3], self.so(3, range(8), 1))
        self.assertEqual([0, 1, 2], self.so(3, [1, 2, 4, 7], 1))
        self.assertEqual([0, 1], self.so(3, [1, 6], 1))
        self.assertEqual([0], self.so(3, [1, 2], 1))
        self.assertEqual([0], self.so(3, [5], 1))

    def test_covers(self):
        self.assertEqual([], self.so(3, [], 2))
        self.assertEqual([3], self.so(3, [5], 2))
        self.assertEqual([2, 3], self.so(3, [4, 5], 2))
        self.assertEqual([1, 2, 3], self.so(3, [0, 7], 2))
        self.assertEqual([0, 1, 2, 3], self.so(3, range(8), 2))

    def test_hit_evenly(self):
        self.assertEqual([0, 1, 2, 3], self.so(3, [], 3))
        self.assertEqual([0, 1, 2, 3], self.so(3, range(8), 3))
        self.assertEqual([3], self.so(3, [5], 3))
        self.assertEqual([1, 3], self.so(3, [0, 7], 3))
        self.assertEqual([1, 3], self.so(3, [0, 1, 6, 7], 3))
        self.assertEqual([3], self.so(3, [0, 1, 2, 3], 3))

    def test_closed(self):
        self.assertEqual([True], self.so(3, [], 4))
        self.assertEqual([True], self.so(3, [0], 4))
        self.assertEqual([True], self.so(3, [0, 6], 4))
        self.assertEqual([True], self.so(3, range(8), 4))
        self.assertEqual([], self.so(3, [6], 4))
        self.assertEqual([], self.so(3, [0, 1, 2], 4))
        self.assertEqual([], self.so(3, [1, 2, 3], 4))

    def test_even_places(self):
        self.assertEqual([0, 1, 2, 3, 4, 5, 6, 7], self.so(3, [], 5))
        self.assertEqual([0, 1, 2, 3, 4, 5, 6, 7], self.so(3, range(8), 5))
        self.assertEqual([0], self.so(3, [5], 5))
        self.assertEqual([0, 1, 2, 4], self.so(3, [1, 6], 5))
        self.assertEqual([0, 1, 2, 3], self.so(3, [0, 1, 2, 3], 5))
        self.assertEqual([0, 1, 2, 3, 4, 5, 6], self.so(3, [0, 3, 5, 6], 5))
        # Each of the places is even by itself here, and one pattern of both is had by no word.
        self.assertEqual([0, 1, 2, 4], self.so(3, [0, 7], 5))


if __name__ == "__main__":
    unittest.main()
