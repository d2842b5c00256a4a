"""The interface: how calls are handed in and answers given back, and what stays as it is."""

import unittest

from farwordsbook.bits import answers
from lines import NUMBERS, ask, flat, last, puts

# How many whole numbers each call has, and the calls that have a row.
WITH_ONE = ("put", "take", "move", "goal", "strike", "tilt", "off", "mend", "evenly", "in_the_way", "all_of", "line")
WITH_TWO = ("begin", "swap")
WITH_ROW = {"note": 1, "so": 1, "proves": 0}


def some_call(name, row):
    if name in WITH_ROW:
        return (name,) + (0,) * WITH_ROW[name] + (row,)
    if name in WITH_TWO:
        return (name, 2, 1)
    return (name, 1) if name in WITH_ONE else (name,)


class Interface(unittest.TestCase):
    def test_a_line_as_it_stands(self):
        self.assertEqual(answers([0, 3, 2, 1, 5, 9, 0, 1, 2, 1, 4, 13]),
                         [1, 0, 1, 1, 1, 0, 2, 2, 0, 3, 2, 4, 5])

    def test_a_refusal_is_its_number_alone(self):
        self.assertEqual(answers([1, 3, 0, 7, 1, 0, 2, 1, 16, 4]), [1, -61, 1, -22, 1, 0, 1, -22])

    def test_answers_are_whole_numbers_in_a_list(self):
        found = answers(flat([("begin", 2, 1), ("note", 4, []), ("words",), ("uneven",), ("sums",), ("tilt", 1)]))
        self.assertIs(list, type(found))
        self.assertEqual({int}, {type(number) for number in found})

    def test_what_is_handed_in_stays(self):
        calls = flat([("begin", 3, 2), ("put", 1), ("note", 0, [3]), ("put", 2), ("fill",), ("back",), ("words",)])
        before = list(calls)
        answers(calls)
        self.assertEqual(before, calls)

    def test_nothing_is_kept_from_one_time_to_the_next(self):
        calls = flat([("put", 0), ("begin", 3, 2), ("put", 1), ("note", 4, []), ("note", 0, [3]), ("words",), ("back",)])
        first = answers(calls)
        self.assertEqual(first, answers(calls))
        self.assertEqual([1, -61], answers([13]))
        self.assertEqual([1, -61], answers([11]))
        self.assertEqual([[0], [0], [-2], [-2], [-2]],
                         ask(("begin", 3, 2), ("words",), ("back",), ("again",), ("strike", 0)))

    def test_each_call_is_read_to_its_end(self):
        for name in sorted(NUMBERS):
            for row in ([], [1]) if name in WITH_ROW else ([],):
                found = ask(("begin", 3, 2), ("put", 6), some_call(name, row), ("begin", 4, 1), ("put", 9), ("words",))
                self.assertEqual([[0], [1]], found[:2])
                self.assertEqual([[0], [1], [1, 9]], found[3:], name)

    def test_a_proof_of_seven_numbers_is_read_to_its_end(self):
        found = ask(("begin", 6, 3), ("proves", [1, 13, 13, 13, 13, 13, 13]), ("put", 13), ("words",))
        self.assertEqual([[1], [1, 13]], found[2:])

    def test_a_line_may_be_as_long_as_is_told(self):
        calls = [("begin", 6, 1)] + [("note", 0, [9])] * 58 + [("words",)]
        self.assertEqual([[0]] + [[-22]] * 58 + [[0]], ask(*calls))

    def test_the_later_calls_change_nothing(self):
        later = [some_call(name, [1]) for name in sorted(NUMBERS) if NUMBERS[name] > 18]
        found = ask(("begin", 3, 2), *puts(0, 3), ("back",), *later, ("again",), ("words",), ("back",), ("back",))
        self.assertEqual([[0], [2, 0, 3], [1], [0]], found[-4:])

    def test_the_later_calls_are_refused_as_not_built(self):
        for name in sorted(NUMBERS):
            if NUMBERS[name] > 18:
                self.assertEqual([-38], last(("begin", 3, 2), some_call(name, [])), name)


class NotBegun(unittest.TestCase):
    def test_every_other_call_is_refused_till_begun(self):
        for name in sorted(NUMBERS):
            if name != "begin":
                self.assertEqual([[-61], [-61]], ask(some_call(name, []), ("words",)), name)

    def test_ahead_of_all_else(self):
        self.assertEqual([-61], last(("put", 64)))
        self.assertEqual([-61], last(("swap", 7, 9)))
        self.assertEqual([-61], last(("goal", 0)))
        self.assertEqual([-61], last(("note", 6, [])))
        self.assertEqual([-61], last(("tilt", 2147483647)))

    def test_a_refused_begin_does_not_begin(self):
        self.assertEqual([[-22], [-61], [0], [1]], ask(("begin", 3, 4), ("put", 0), ("begin", 3, 3), ("put", 0)))


if __name__ == "__main__":
    unittest.main()
