"""Many lines of calls, held against the document's words as the model writes them once more."""

import random
import unittest

from lines import ask
from model import Model

CHANGES = ("put", "take", "rest", "move", "swap", "close", "fill", "goal", "note", "strike", "back", "again")
LOOKS = ("words", "twos", "sums", "tilt", "strength", "uneven", "least", "off", "mend", "more", "bound", "proves",
         "best_proof", "spread", "held", "evenly", "in_the_way", "radius", "reach", "so", "all_of", "report", "line",
         "state")
OFTEN = ("put", "put", "put", "take", "note", "note", "note", "note", "back", "again")


def some_call(chance, bits, name):
    word = chance.randrange(2 ** bits) if chance.random() < 0.95 else chance.choice((2 ** bits, 2147483647))
    bit = chance.randrange(bits + 1)
    if name in ("put", "take", "move", "tilt", "off", "mend"):
        return (name, word)
    if name == "swap":
        return (name, bit, chance.randrange(bits + 1))
    if name == "goal":
        return (name, chance.randrange(bits + 2))
    if name in ("strike", "line"):
        return (name, min(chance.randrange(9), chance.randrange(4)))
    if name in ("evenly", "in_the_way"):
        return (name, chance.randrange(bits + 2))
    if name == "all_of":
        return (name, chance.randrange(7))
    if name == "proves":
        return (name, some_row(chance, bits))
    if name in ("note", "so"):
        kind = chance.randrange(6) if chance.random() < 0.95 else 6
        its = [] if kind == 4 else [word if kind == 5 else chance.randrange(bits + 2)]
        return (name, kind, its if chance.random() < 0.95 else [] if its else [0])
    return (name,)


def some_row(chance, bits):
    """Numbers of which some are a proof for some goals, and some aren't as told."""
    most = chance.choice((1, 3, 1000, 1001))
    row = [chance.randint(0, most) for _ in range(bits + 1)]
    if chance.random() < 0.6:
        apart = chance.randint(1, bits)
        row = [chance.randint(1, 3) + (k if k % 2 == apart % 2 else 0) for k in range(bits + 1)]
        row[0] = chance.randint(0, 2)
    if chance.random() < 0.2:
        row = row[:chance.randint(0, bits)] if chance.random() < 0.5 or bits == 6 else row + [1]
    return row


def some_line(chance, most_bits):
    bits = chance.randint(1, most_bits)
    calls = [("begin", bits, chance.randint(1, bits))]
    if chance.random() < 0.1:
        calls = [("put", 0), ("begin", 7, 1)] + calls
    while len(calls) < 60:
        name = chance.choice(chance.choice((CHANGES, OFTEN, OFTEN, LOOKS)))
        if chance.random() < 0.01:
            calls.append(("begin", bits, chance.randrange(bits + 2)))
        calls.append(some_call(chance, bits, name))
    return calls[:60]


class AgainstModel(unittest.TestCase):
    def hold(self, chance, most_bits):
        calls = some_line(chance, most_bits)
        model = Model()
        for number, answer in enumerate(ask(*calls)):
            self.assertEqual(model.answer(*calls[number]), answer, calls[:number + 1])

    def test_few_bits(self):
        for seed in range(400):
            self.hold(random.Random(seed), 3)

    def test_more_bits(self):
        for seed in range(40):
            self.hold(random.Random(1000 + seed), 6)


if __name__ == "__main__":
    unittest.main()
