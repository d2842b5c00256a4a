"""What holds, points a to d."""

import random
import unittest
from fractions import Fraction

from lines import LOOKS, ask, last, look, puts
from model import far, hit, in_the_way, ones, places_of, sums, tilt


def all_notes(bits):
    """A call to note for each saying that there is."""
    numbered = [("note", kind, [number]) for kind in range(4) for number in range(bits + 1)]
    return numbered + [("note", 4, [])] + [("note", 5, [u]) for u in range(2 ** bits)]


def some_change(chance, bits):
    """A change of words."""
    name = chance.choice(("put", "put", "put", "take", "rest", "move", "swap", "close", "fill"))
    if name == "swap":
        return (name, chance.randrange(bits), chance.randrange(bits))
    return (name, chance.randrange(2 ** bits)) if name in ("put", "take", "move") else (name,)


def sets_of_words(bits, seed, many):
    """Some sets of words, the closed and the odd ones among them."""
    chance = random.Random(seed)
    found = [(), (0,), tuple(range(2 ** bits))]
    for size in range(many):
        found.append(tuple(chance.sample(range(2 ** bits), chance.randint(1, 2 ** bits - 1))))
        basis = chance.sample(range(1, 2 ** bits), min(2, 2 ** bits - 1))
        span = {0}
        for word in basis:
            span |= {word ^ other for other in span}
        step = chance.randrange(2 ** bits)
        found.append(tuple(sorted(span)))
        found.append(tuple(sorted(word ^ step for word in span)))
    return found


def so(bits, words, note):
    """Whether a saying is so, told by noting it, and by asking."""
    noted, asked = ask(("begin", bits, 1), *puts(*words), note, ("so",) + note[1:])[-2:]
    assert (noted, asked) in (([0], [1]), ([-13], [0])), (words, note)
    return noted == [0]


class InTheReport(unittest.TestCase):
    """Point a: for each saying and each change of words, a line is struck just if it can't be noted anew."""

    def changed(self, bits, words, note, change):
        """Whether the saying was so, whether it's struck behind the change, and what noting it anew answers then."""
        found = ask(("begin", bits, 2), *puts(*words), note, change, note)
        first, answer, anew = found[-3:]
        return first == [0], answer[1:] == [0], anew

    def changes(self, words):
        free = [word for word in range(8) if word not in words]
        found = [("rest",), ("move", 0), ("move", 3), ("move", 5), ("swap", 0, 2), ("swap", 1, 2), ("close",), ("fill",)]
        return found + [("put", word) for word in free[:2]] + [("take", word) for word in words[:2]]

    def test_just_what_is_not_so_is_struck(self):
        for words in sets_of_words(3, 5, 4):
            for change in self.changes(words):
                for note in all_notes(3):
                    was, struck, anew = self.changed(3, words, note, change)
                    if was:
                        self.assertEqual([-13] if struck else [-17], anew, (words, note, change))
                    else:
                        self.assertFalse(struck)

    def test_which_lines_moves_swaps_and_rest_may_strike(self):
        may = {"move": (4,), "swap": (5,), "rest": (0, 2, 4)}
        for words in sets_of_words(3, 7, 6):
            for change in self.changes(words):
                for note in all_notes(3):
                    if change[0] in may and self.changed(3, words, note, change)[1]:
                        self.assertIn(note[1], may[change[0]], (words, note, change))


class ManyChanges(unittest.TestCase):
    """Point a over many changes: the report stays as it was but for the lines that are struck, and all in it is so."""

    def report(self, calls):
        many = last(*calls, ("report",))[0]
        return [last(*calls, ("line", i)) for i in range(many)]

    def test_all_that_stands_is_so(self):
        for seed in range(60):
            chance = random.Random(seed)
            bits = chance.choice((2, 3, 3, 4))
            calls = [("begin", bits, chance.randint(1, bits))]
            before = []
            while len(calls) < 45:
                calls.append(chance.choice(all_notes(bits)) if chance.random() < 0.6 else some_change(chance, bits))
                answer, lines = last(*calls), self.report(calls)
                for kind, *its in lines:
                    self.assertEqual([1], last(*calls, ("so", kind, its)), calls)
                if calls[-1][0] != "note" and answer[0] >= 0:
                    struck = [before[i] for i in answer[1:]]
                    self.assertEqual([line for line in before if line not in struck], lines)
                    for kind, *its in struck:
                        self.assertEqual([0], last(*calls, ("so", kind, its)), calls)
                elif answer[0] < 0:
                    self.assertEqual(before, lines)
                before = lines


class NoMoreThanTheBound(unittest.TestCase):
    """Point b."""

    GOALS = [(bits, goal) for bits in range(1, 7) for goal in range(1, bits + 1)]

    def test_filled_from_none(self):
        for bits, goal in self.GOALS:
            found = ask(("begin", bits, goal), ("bound",), ("fill",), ("so", 4, []), ("so", 0, [goal]), ("more",))
            self.assertEqual([found[1], [1], [1], [0]], found[2:], (bits, goal))

    def test_words_so_far_apart(self):
        for bits, goal in self.GOALS:
            for seed in range(8):
                chance = random.Random(100 * bits + 10 * goal + seed)
                words = []
                for word in chance.sample(range(2 ** bits), 2 ** bits):
                    if all(far(word, other) >= goal for other in words) and len(words) < 50:
                        words.append(word)
                many, bound, best, spread = ask(("begin", bits, goal), *puts(*words), ("state",), ("bound",),
                                                ("best_proof",), ("spread",))[-4:]
                self.assertEqual(len(words), many[2])
                self.assertLessEqual(many[2], bound[0])
                self.assertLessEqual(many[2], best[0])
                self.assertLessEqual(many[2], Fraction(spread[-2], spread[-1]))


class WithoutLooking(unittest.TestCase):
    """Point c, each side as the program tells it, and by the model."""

    def test_strength_by_the_sums(self):
        for bits in (1, 2, 3, 4):
            for words in sets_of_words(bits, bits, 5):
                if len(words) > 40:
                    continue
                strength, told = ask(("begin", bits, 1), *puts(*words), ("strength",), ("sums",))[-2:]
                self.assertEqual(sums(bits, words), told[1:])
                self.assertEqual([strength[0] + 1] + list(range(strength[0] + 1)), look(bits, words, "all_of", 1))
                for t in range(bits + 1):
                    self.assertEqual(not any(told[2:t + 2]), strength[0] >= t, (words, t))
                    self.assertEqual(strength[0] >= t, so(bits, words, ("note", 1, [t])), (words, t))

    def test_sums_by_the_tilts(self):
        for words in sets_of_words(3, 11, 5):
            told = last(("begin", 3, 1), *puts(*words), ("sums",))[1:]
            tilts = [last(("begin", 3, 1), *puts(*words), ("tilt", u))[1] for u in range(8)]
            self.assertEqual([sum(tilts[u] ** 2 for u in places_of(3, k)) for k in range(4)], told)

    def test_even_places_by_the_tilts(self):
        for words in sets_of_words(3, 13, 5):
            for u in range(8):
                tilting = [v for v in range(1, 8) if ones(v) <= ones(u) and tilt(words, v) != 0]
                self.assertEqual(not tilting, so(3, words, ("note", 5, [u])), (words, u))

    def test_hit_evenly_by_what_is_in_the_way(self):
        for words in sets_of_words(3, 17, 5):
            for r in range(4):
                evenly = so(3, words, ("note", 3, [r]))
                self.assertEqual(not in_the_way(3, words, r), evenly, (words, r))
                self.assertEqual(look(3, words, "in_the_way", r) == [0], look(3, words, "evenly", r) != [-33])
                self.assertEqual(evenly, look(3, words, "evenly", r) != [-33])
                self.assertEqual(len(set(hit(3, words, r))) == 1, evenly, (words, r))

    def test_hit_evenly_twice(self):
        words = (0, 1, 6, 7)
        self.assertEqual({2}, set(hit(3, words, 1)))
        self.assertTrue(so(3, words, ("note", 3, [1])))
        self.assertFalse(so(3, words, ("note", 3, [0])))


class WithoutLookingOverMany(unittest.TestCase):
    """Point c for every number of bits, each side as the program tells it."""

    def hold(self, bits, words):
        begun = (("begin", bits, 1), *(puts(*words) if len(words) < 2 ** bits else [("rest",)]))
        told, strong, even = ask(*begun, ("sums",), ("all_of", 1), ("all_of", 5))[-3:]
        self.assertEqual([t for t in range(bits + 1) if not any(told[2:t + 2])], strong[1:], words)
        tilts = [last(*begun, ("tilt", u))[1] for u in range(2 ** bits)]
        free = [u for u in range(2 ** bits) if not any(tilts[v] for v in range(1, 2 ** bits) if v & u == v)]
        self.assertEqual(free, even[1:], words)
        for r in range(bits + 1):
            often, way, said = ask(*begun, ("evenly", r), ("in_the_way", r), ("so", 3, [r]))[-3:]
            self.assertEqual(way == [0], often != [-33], (words, r))
            self.assertEqual(said == [1], often != [-33], (words, r))

    def test_all_words_of_few_bits(self):
        for bits in (1, 2, 3):
            for chosen in range(2 ** 2 ** bits):
                self.hold(bits, [word for word in range(2 ** bits) if chosen >> word & 1])

    def test_more_bits(self):
        for bits in (4, 5, 6):
            for words in sets_of_words(bits, 19 + bits, 4):
                if len(words) < 55 or len(words) == 2 ** bits:
                    self.hold(bits, words)

    def test_filled(self):
        for bits in range(1, 7):
            for goal in range(1, bits + 1):
                self.hold(bits, last(("begin", bits, goal), ("fill",), ("words",))[1:])


class AsItWas(unittest.TestCase):
    """Point d: what's taken back and done again is as it was."""

    def looked(self, *calls):
        """What the looks answer behind the calls, each line of the report, and how far back and again go."""
        lines = [("line", i) for i in range(8)]
        looks = ask(*calls, *LOOKS)[-len(LOOKS):] + ask(*calls, *lines)[-8:]
        return looks, ask(*calls, *[("again",)] * 11)[-11:], ask(*calls, *[("back",)] * 11)[-11:]

    def only_looked(self, *calls):
        """The same without how far back and again go."""
        return self.looked(*calls)[0]

    BEGUN = (("begin", 3, 2), *puts(0, 7), ("note", 0, [3]), ("note", 4, []), ("note", 1, [1]), ("note", 2, [1]))

    def test_each_change(self):
        before = self.only_looked(*self.BEGUN)
        for change in (("put", 1), ("take", 0), ("rest",), ("move", 1), ("swap", 0, 1), ("close",), ("fill",),
                       ("goal", 3), ("note", 3, [1]), ("strike", 2)):
            behind = self.only_looked(*self.BEGUN, change)
            self.assertEqual(before, self.only_looked(*self.BEGUN, change, ("back",)), change)
            self.assertEqual(behind, self.only_looked(*self.BEGUN, change, ("back",), ("again",)), change)
            self.assertEqual(before, self.only_looked(*self.BEGUN, change, ("back",), ("again",), ("back",)), change)

    def test_many_changes(self):
        changes = (("put", 1), ("note", 5, [0]), ("rest",), ("move", 1), ("swap", 0, 1), ("goal", 3), ("close",),
                   ("take", 0), ("fill",), ("strike", 0))
        looked = [self.only_looked(*self.BEGUN, *changes[:many]) for many in range(11)]
        backs = []
        for many in range(1, 11):
            backs.append(("back",))
            self.assertEqual(looked[10 - many], self.only_looked(*self.BEGUN, *changes, *backs), many)
        for many in range(1, 11):
            backs.append(("again",))
            self.assertEqual(looked[many], self.only_looked(*self.BEGUN, *changes, *backs), many)

    def test_over_many_lists_of_calls(self):
        for seed in range(25):
            chance = random.Random(500 + seed)
            calls = [("begin", 3, chance.randint(1, 3))]
            looked = [self.only_looked(*calls)]
            while len(calls) < 12:
                change = chance.choice(all_notes(3)) if chance.random() < 0.4 else some_change(chance, 3)
                if last(*calls, change)[0] >= 0:
                    calls.append(change)
                    looked.append(self.only_looked(*calls))
            many = chance.randint(1, 10)
            backs = [("back",)] * many
            agains = [("again",)] * chance.randint(0, many)
            place = len(calls) - 1 - many + len(agains)
            self.assertEqual(looked[place], self.only_looked(*calls, *backs, *agains), calls)

    def test_what_is_refused_and_looking_change_nothing(self):
        refused = (("begin", 3, 4), ("put", 7), ("put", 8), ("take", 1), ("take", 8), ("move", 8), ("swap", 0, 3),
                   ("goal", 0), ("goal", 4), ("note", 0, [4]), ("note", 0, []), ("note", 6, []), ("note", 1, [2]),
                   ("note", 4, []), ("strike", 4))
        for begun in (self.BEGUN, self.BEGUN + (("put", 3), ("goal", 1), ("back",), ("back",))):
            before = self.looked(*begun)
            for call in refused + LOOKS:
                self.assertEqual(before, self.looked(*begun, call), call)
        self.assertEqual(self.looked(*self.BEGUN), self.looked(*self.BEGUN, ("again",)))


if __name__ == "__main__":
    unittest.main()
