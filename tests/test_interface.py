"""The interface: how calls are handed in and answers given back, and what stays as it is."""

import unittest

from farwordsbook.bits import answers
from lines import LOOKS, NUMBERS, TOP, ask, flat, last, look, puts

# How many whole numbers each call has, and the calls that have a row.
WITH_ONE = ("put", "take", "move", "goal", "strike", "tilt", "off", "mend", "evenly", "in_the_way", "all_of", "line")
WITH_TWO = ("begin", "swap")
WITH_ROW = {"note": 1, "so": 1, "proves": 0}


def some_call(name, row):
    if name in WITH_ROW:
        return (name,) + (0,) * WITH_ROW[name] + (row,)
    if name in WITH_TWO:
        return (name, 2, 1)
    return (name, 1) if name in WITH_ONE else (name,)


class Interface(unittest.TestCase):
    def test_a_line_as_it_stands(self):
        self.assertEqual(answers([0, 3, 2, 1, 5, 9, 0, 1, 2, 1, 4, 13]),
                         [1, 0, 1, 1, 1, 0, 2, 2, 0, 3, 2, 4, 5])

    def test_a_refusal_is_its_number_alone(self):
        self.assertEqual(answers([1, 3, 0, 7, 1, 0, 2, 1, 16, 4]), [1, -61, 1, -22, 1, 0, 1, -22])

    def test_answers_are_whole_numbers_in_a_list(self):
        found = answers(flat([("begin", 2, 1), ("note", 4, []), ("words",), ("uneven",), ("sums",), ("tilt", 1)]))
        self.assertIs(list, type(found))
        self.assertEqual({int}, {type(number) for number in found})

    def test_what_is_handed_in_stays(self):
        calls = flat([("begin", 3, 2), ("put", 1), ("note", 0, [3]), ("put", 2), ("fill",), ("back",), ("words",)])
        before = list(calls)
        answers(calls)
        self.assertEqual(before, calls)
        for call in LOOKS:
            calls = flat([("begin", 3, 2), ("put", 1), ("note", 0, [3]), call, ("line", 0), call])
            before = list(calls)
            answers(calls)
            self.assertEqual(before, calls)

    def test_nothing_is_kept_from_one_time_to_the_next(self):
        calls = flat([("put", 0), ("begin", 3, 2), ("put", 1), ("note", 4, []), ("note", 0, [3]), ("words",), ("back",)])
        first = answers(calls)
        self.assertEqual(first, answers(calls))
        looks = flat([("begin", 3, 2), *puts(1, 6), ("note", 0, [3]), *LOOKS])
        first = answers(looks)
        answers(flat([("begin", 3, 1), *LOOKS]))
        self.assertEqual(first, answers(looks))
        self.assertEqual([1, -61], answers([13]))
        self.assertEqual([1, -61], answers([11]))
        self.assertEqual([[0], [0], [-2], [-2], [-2]],
                         ask(("begin", 3, 2), ("words",), ("back",), ("again",), ("strike", 0)))

    def test_each_call_is_read_to_its_end(self):
        for name in sorted(NUMBERS):
            for row in ([], [1]) if name in WITH_ROW else ([],):
                found = ask(("begin", 3, 2), ("put", 6), some_call(name, row), ("begin", 4, 1), ("put", 9), ("words",))
                self.assertEqual([[0], [1]], found[:2])
                self.assertEqual([[0], [1], [1, 9]], found[3:], name)

    def test_a_proof_of_seven_numbers_is_read_to_its_end(self):
        found = ask(("begin", 6, 3), ("proves", [1, 13, 13, 13, 13, 13, 13]), ("put", 13), ("words",))
        self.assertEqual([[1], [1, 13]], found[2:])

    def test_a_line_may_be_as_long_as_is_told(self):
        calls = [("begin", 6, 1)] + [("note", 0, [9])] * 58 + [("words",)]
        self.assertEqual([[0]] + [[-22]] * 58 + [[0]], ask(*calls))

    def test_looks_change_nothing(self):
        looks = [some_call(name, [1]) for name in sorted(NUMBERS) if NUMBERS[name] > 12]
        found = ask(("begin", 3, 2), *puts(0, 3), ("back",), *looks, ("again",), ("words",), ("back",), ("back",))
        self.assertEqual([[0], [2, 0, 3], [1], [0]], found[-4:])

    def test_each_call_answers_as_many_numbers_as_told(self):
        one = ("begin", "goal", "note", "strike", "back", "again", "strength", "least", "bound", "evenly", "radius",
               "reach", "so", "report")
        many = {"tilt": 2, "uneven": 2, "off": 2, "mend": 3, "proves": 3, "best_proof": 9, "line": 2, "state": 4}
        counted = ("words", "twos", "sums", "more", "in_the_way", "all_of")
        for name in sorted(NUMBERS):
            begun = [("begin", 3, 2), ("put", 1), ("put", 7), ("note", 0, [0]), ("note", 0, [2]), ("put", 0), ("back",)]
            row = [1, 1, 1, 1] if name == "proves" else [1]
            call = ("take", 7) if name == "take" else ("put", 2) if name == "put" else some_call(name, row)
            answer = last(*begun, ("evenly", 3) if name == "evenly" else call)
            self.assertGreaterEqual(answer[0], 0, name)
            if name in counted:
                self.assertEqual(answer[0], len(answer) - 1, name)
            elif name == "held":
                self.assertEqual((4, 9), (answer[0], len(answer)))
            elif name == "spread":
                self.assertEqual((2, 7), (answer[0], len(answer)))
            elif name in many or name in one:
                self.assertEqual(many.get(name, 1), len(answer), name)
            else:
                self.assertEqual(sorted(set(answer[1:])), answer[1:], name)
                self.assertLessEqual(set(answer[1:]), {0, 1}, name)

    def test_only_the_tilt_may_be_below_0(self):
        for name in sorted(NUMBERS):
            answer = last(("begin", 3, 2), *puts(1, 3), ("note", 0, [1]), some_call(name, [1]))
            if name != "tilt" and len(answer) > 1:
                self.assertGreaterEqual(min(answer), 0, name)
        self.assertEqual([0, -2], look(3, [1, 3], "tilt", 1))

    def test_only_refusals_that_are_told(self):
        for name in sorted(NUMBERS):
            for row in ([], [1], [TOP]):
                for words in ([], [1, 6]):
                    answer = last(("begin", 3, 2), *puts(*words), some_call(name, row))
                    self.assertTrue(answer[0] >= 0 or answer in ([-2], [-6], [-13], [-17], [-22], [-33]), name)


class NotBegun(unittest.TestCase):
    def test_every_other_call_is_refused_till_begun(self):
        for name in sorted(NUMBERS):
            if name != "begin":
                self.assertEqual([[-61], [-61]], ask(some_call(name, []), ("words",)), name)

    def test_ahead_of_all_else(self):
        self.assertEqual([-61], last(("put", 64)))
        self.assertEqual([-61], last(("swap", 7, 9)))
        self.assertEqual([-61], last(("goal", 0)))
        self.assertEqual([-61], last(("note", 6, [])))
        self.assertEqual([-61], last(("tilt", TOP)))
        self.assertEqual([-61], last(("proves", [])))
        self.assertEqual([-61], last(("evenly", TOP)))
        self.assertEqual([-61], last(("all_of", 4)))

    def test_a_refused_begin_does_not_begin(self):
        self.assertEqual([[-22], [-61], [0], [1]], ask(("begin", 3, 4), ("put", 0), ("begin", 3, 3), ("put", 0)))


if __name__ == "__main__":
    unittest.main()
