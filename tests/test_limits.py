"""Promise 5: bound, proves, best_proof and spread, for every number of bits with every goal."""

import unittest
from fractions import Fraction
from math import lcm

from farwordsbook import bounds
from lines import TOP, ask, last, look, puts
from model import best_proof, come_to, greatest_spread, is_proof, is_spread, plain_bounds

ALL = [(bits, goal) for bits in range(1, 7) for goal in range(1, bits + 1)]

# How many words there are at most: for each number of bits, by the goal from 1 on.
MOST = {1: [2], 2: [4, 2], 3: [8, 4, 2], 4: [16, 8, 2, 2], 5: [32, 16, 4, 2, 2], 6: [64, 32, 8, 4, 2, 2]}


def fractions(told):
    """Numbers two by two as fractions; each must have nothing in common, and its lower one be 1 or more."""
    assert len(told) % 2 == 0
    found = []
    for above, below in zip(told[::2], told[1::2]):
        assert below >= 1 and Fraction(above, below).as_integer_ratio() == (above, below), (above, below)
        found.append(Fraction(above, below))
    return found


def proof_of(bits, goal):
    """The best proof: the bound rounded down, the bound, the numbers but the first."""
    answer = last(("begin", bits, goal), ("best_proof",))
    assert len(answer) == 3 + 2 * bits, answer
    told = fractions(answer[1:])
    return answer[0], told[0], told[1:]


def spread_of(bits, goal):
    """The greatest spread: its numbers, and all together and 1."""
    answer = last(("begin", bits, goal), ("spread",))
    assert answer[0] == bits - goal + 1 and len(answer) == 1 + 2 * (answer[0] + 1), answer
    told = fractions(answer[1:])
    return told[:-1], told[-1]


def as_row(numbers):
    """A proof's numbers but the first, whose first is 1, as a row of whole numbers."""
    below = lcm(*[number.denominator for number in numbers])
    return [below] + [int(number * below) for number in numbers]


class Bound(unittest.TestCase):
    def test_the_least_plain_bound(self):
        for bits, goal in ALL:
            self.assertEqual([MOST[bits][goal - 1]], look(bits, [], "bound", goal=goal), (bits, goal))
            self.assertEqual(MOST[bits][goal - 1], min(plain_bounds(bits, goal).values()))

    def test_each_plain_bound(self):
        for bits, goal in ALL:
            told = plain_bounds(bits, goal)
            self.assertEqual(told["balls"], bounds.by_balls(bits, goal))
            self.assertEqual(told["cutting"], bounds.by_cutting(bits, goal))
            self.assertEqual([told["mean"]] if "mean" in told else [], bounds.by_mean(bits, goal))
            self.assertEqual([told["evening"]] if "evening" in told else [], bounds.by_evening(bits, goal))

    def test_plain_bounds_by_hand(self):
        self.assertEqual({"balls": 9, "cutting": 16, "evening": 8}, plain_bounds(6, 3))
        self.assertEqual({"balls": 3, "cutting": 4, "mean": 3, "evening": 2}, plain_bounds(4, 3))
        self.assertEqual({"balls": 16, "cutting": 8}, plain_bounds(4, 2))
        self.assertEqual({"balls": 9, "cutting": 8, "mean": 4}, plain_bounds(6, 4))

    def test_whatever_words_there_are(self):
        self.assertEqual([2], look(3, range(8), "bound", goal=3))
        self.assertEqual([2], look(3, [1, 2], "bound", goal=3))

    def test_for_the_goal_as_it_is_by_then(self):
        self.assertEqual([[64], [1], [8], [0], [64]],
                         ask(("begin", 6, 1), ("bound",), ("goal", 3), ("bound",), ("back",), ("bound",))[1:])


class Proves(unittest.TestCase):
    def proves(self, bits, goal, *numbers):
        return last(("begin", bits, goal), ("proves", list(numbers)))

    def test_a_proof(self):
        self.assertEqual([8, 8, 1], self.proves(3, 1, 1, 1, 1, 1))
        self.assertEqual([8, 8, 1], self.proves(3, 3, 1, 1, 1, 1))
        self.assertEqual([2, 2, 1], self.proves(3, 3, 1, 0, 0, 1))
        self.assertEqual([4, 4, 1], self.proves(3, 2, 3, 2, 1, 0))
        self.assertEqual([2, 8, 3], self.proves(4, 3, 3, 1, 0, 0, 1))
        self.assertEqual([2, 8, 3], self.proves(4, 3, 6, 2, 0, 0, 2))
        self.assertEqual([2, 2, 1], self.proves(1, 1, 1, 1))
        self.assertEqual([2, 12, 5], self.proves(6, 5, 5, 1, 0, 0, 0, 0, 1))

    def test_it_may_come_to_less_than_0(self):
        self.assertEqual([3, 3, 1], self.proves(2, 2, 1, 1, 0))
        self.assertEqual([2, 2, 1], self.proves(2, 2, 2, 1, 0))

    def test_no_proof(self):
        self.assertEqual([-33], self.proves(3, 3, 1, 0, 0, 0))
        self.assertEqual([-33], self.proves(3, 2, 3, 2, 0, 0))
        self.assertEqual([-33], self.proves(3, 2, 1, 0, 0, 1))
        self.assertEqual([-33], self.proves(2, 2, 3, 1, 0))
        # Either comes to more than 0 at one distance alone: the goal, and the last.
        self.assertEqual([-33], self.proves(3, 1, 1, 1, 0, 0))
        self.assertEqual([-33], self.proves(3, 1, 1, 1, 1, 0))

    def test_the_first_is_0(self):
        self.assertEqual([-33], self.proves(2, 2, 0, 1, 0))
        self.assertEqual([-33], self.proves(2, 1, 0, 0, 0))
        self.assertEqual([-33], self.proves(1, 1, 0, 1))

    def test_for_the_goal_as_it_is_by_then(self):
        self.assertEqual([[-33], [1], [3, 3, 1], [2], [-33]],
                         ask(("begin", 2, 1), ("proves", [1, 1, 0]), ("goal", 2), ("proves", [1, 1, 0]), ("goal", 1),
                             ("proves", [1, 1, 0]))[1:])

    def test_not_a_number_for_each(self):
        for bits in range(1, 7):
            for many in range(8):
                answer = [2 ** bits, 2 ** bits, 1] if many == bits + 1 else [-22]
                self.assertEqual(answer, self.proves(bits, bits, *[1] * many), (bits, many))

    def test_a_number_above_1000(self):
        self.assertEqual([4, 4, 1], self.proves(2, 1, 1000, 1000, 1000))
        for row in ([1001, 1000, 1000], [1000, 1001, 1000], [1000, 1000, 1001], [1, 1, TOP], [1001, 1001, 1001]):
            self.assertEqual([-22], self.proves(2, 1, *row), row)

    def test_which_is_answered_first(self):
        self.assertEqual([-22], self.proves(2, 1, 0, 0))
        self.assertEqual([-22], self.proves(2, 1, 0, 0, 0, 0))
        self.assertEqual([-22], self.proves(2, 1, 0, 1001, 0))
        self.assertEqual([-22], self.proves(2, 1, 1001))

    def test_each_row_of_small_numbers(self):
        for goal in (1, 2, 3):
            for row in [[a, b, c, d] for a in range(4) for b in range(4) for c in range(4) for d in range(4)]:
                answer = self.proves(3, goal, *row)
                if is_proof(3, goal, row):
                    bound = Fraction(come_to(3, row, 0), row[0])
                    self.assertEqual([int(bound), *bound.as_integer_ratio()], answer, (goal, row))
                else:
                    self.assertEqual([-33], answer, (goal, row))


class BestProof(unittest.TestCase):
    def test_by_hand(self):
        self.assertEqual([2, 2, 1, 1, 1], look(1, [], "best_proof"))
        self.assertEqual([2, 2, 1, 1, 2, 0, 1], look(2, [], "best_proof", goal=2))
        self.assertEqual([4, 4, 1, 2, 3, 1, 3, 0, 1], look(3, [], "best_proof", goal=2))
        self.assertEqual([2, 2, 1, 0, 1, 0, 1, 1, 1], look(3, [], "best_proof", goal=3))
        self.assertEqual([2, 8, 3, 1, 3, 0, 1, 0, 1, 1, 3], look(4, [], "best_proof", goal=3))
        self.assertEqual([2, 12, 5, 1, 5, 0, 1, 0, 1, 0, 1, 0, 1, 1, 5], look(6, [], "best_proof", goal=5))

    def test_it_is_a_proof_of_its_bound(self):
        for bits, goal in ALL:
            down, bound, numbers = proof_of(bits, goal)
            self.assertTrue(is_proof(bits, goal, [1] + numbers), (bits, goal))
            self.assertEqual(bound, come_to(bits, [1] + numbers, 0))
            self.assertEqual(down, bound.numerator // bound.denominator)

    def test_proves_says_likewise(self):
        for bits, goal in ALL:
            answer = look(bits, [], "best_proof", goal=goal)
            row = as_row(fractions(answer[3:]))
            self.assertEqual(answer[:3], look(bits, [], "proves", row, goal=goal), (bits, goal))

    def test_none_is_better_and_of_like_ones_the_least(self):
        for bits, goal in ALL:
            bound, numbers = best_proof(bits, goal)
            self.assertEqual((bound, numbers), proof_of(bits, goal)[1:], (bits, goal))

    def test_no_row_of_small_numbers_is_before_it(self):
        for goal in (1, 2, 3):
            best = proof_of(3, goal)[1:]
            for row in [[a, b, c, d] for a in range(1, 5) for b in range(5) for c in range(5) for d in range(5)]:
                if is_proof(3, goal, row):
                    told = (Fraction(come_to(3, row, 0), row[0]), [Fraction(number, row[0]) for number in row[1:]])
                    self.assertLessEqual(best, told, (goal, row))

    def test_rounded_down_it_is_the_bound(self):
        for bits, goal in ALL:
            self.assertEqual(MOST[bits][goal - 1], proof_of(bits, goal)[0], (bits, goal))

    def test_whatever_words_there_are_and_for_the_goal_by_then(self):
        self.assertEqual(look(4, [], "best_proof", goal=3),
                         last(("begin", 4, 1), *puts(3, 4), ("goal", 3), ("best_proof",)))


class Spread(unittest.TestCase):
    def test_by_hand(self):
        self.assertEqual([1, 1, 1, 2, 1], look(1, [], "spread"))
        self.assertEqual([2, 2, 1, 1, 1, 4, 1], look(2, [], "spread"))
        self.assertEqual([1, 1, 1, 2, 1], look(2, [], "spread", goal=2))
        self.assertEqual([2, 3, 1, 0, 1, 4, 1], look(3, [], "spread", goal=2))
        self.assertEqual([2, 4, 3, 1, 3, 8, 3], look(4, [], "spread", goal=3))
        self.assertEqual([4, 4, 1, 3, 1, 0, 1, 0, 1, 8, 1], look(6, [], "spread", goal=3))
        self.assertEqual([1, 1, 1, 2, 1], look(6, [], "spread", goal=6))

    def test_it_is_a_spread_and_all_together(self):
        for bits, goal in ALL:
            numbers, together = spread_of(bits, goal)
            self.assertTrue(is_spread(bits, goal, numbers), (bits, goal))
            self.assertEqual(together, sum(numbers) + 1)

    def test_as_much_as_the_best_proof_bounds(self):
        for bits, goal in ALL:
            self.assertEqual(proof_of(bits, goal)[1], spread_of(bits, goal)[1], (bits, goal))

    def test_none_is_greater_and_of_like_ones_the_least(self):
        for bits, goal in ALL:
            together, numbers = greatest_spread(bits, goal)
            self.assertEqual((numbers, together), spread_of(bits, goal), (bits, goal))

    def test_no_small_numbers_are_before_it(self):
        for goal in (1, 2, 3):
            numbers, together = spread_of(3, goal)
            rows = [[]]
            for _ in range(4 - goal):
                rows = [row + [Fraction(half, 2)] for row in rows for half in range(9)]
            for row in rows:
                if is_spread(3, goal, row):
                    self.assertLessEqual((-together, numbers), (-sum(row) - 1, row), (goal, row))

    def test_what_words_hold_is_a_spread(self):
        for bits, goal in ALL:
            answer = last(("begin", bits, goal), ("fill",), ("held",))
            held = fractions(answer[1:])
            self.assertTrue(is_spread(bits, goal, held[goal:]), (bits, goal))
            self.assertLessEqual(sum(held), spread_of(bits, goal)[1])

    def test_whatever_words_there_are_and_for_the_goal_by_then(self):
        self.assertEqual(look(4, [], "spread", goal=3), last(("begin", 4, 1), *puts(3, 4), ("goal", 3), ("spread",)))


if __name__ == "__main__":
    unittest.main()
