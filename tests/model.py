"""The document's words once more, as plainly and slowly as they stand, to hold the program's answers against."""

from fractions import Fraction
from functools import lru_cache
from itertools import combinations

from vertices import vertices


def ones(word):
    return {bit for bit in range(40) if word >> bit & 1}


def far(one, other):
    return len(ones(one) ^ ones(other))


def places_of(bits, size):
    return sorted(sum(1 << bit for bit in chosen) for chosen in combinations(range(bits), size))


def twos(bits, words):
    return [sum(1 for a in words for b in words if far(a, b) == i) for i in range(bits + 1)]


def sign_sum(bits, k, i):
    told = set(range(i))
    return sum(1 if len(told & set(chosen)) % 2 == 0 else -1 for chosen in combinations(range(bits), k))


def sums(bits, words):
    counts = twos(bits, words)
    return [sum(counts[i] * sign_sum(bits, k, i) for i in range(bits + 1)) for k in range(bits + 1)]


def tilt(words, u):
    return sum(1 if len(ones(w) & ones(u)) % 2 == 0 else -1 for w in words)


def even(bits, words, u):
    patterns = [p for p in range(1 << bits) if ones(p) <= ones(u)]
    return len({sum(1 for w in words if ones(w) & ones(u) == ones(p)) for p in patterns}) == 1


def strength(bits, words):
    return max(t for t in range(bits + 1)
               if all(even(bits, words, u) for s in range(t + 1) for u in places_of(bits, s)))


def uneven(bits, words):
    for size in range(bits + 1):
        for u in places_of(bits, size):
            if not even(bits, words, u):
                return [size, u]
    return [-33]


def is_closed(words):
    return all(a ^ b in words for a in words for b in words)


def hit(bits, words, r):
    return [sum(1 for w in words if far(w, x) <= r) for x in range(1 << bits)]


def in_the_way(bits, words, r):
    found = []
    for u in range(1, 1 << bits):
        round_sum = sum(sign_sum(bits, k, len(ones(u))) for k in range(r + 1))
        if tilt(words, u) != 0 and round_sum != 0:
            found.append(u)
    return found


def plain_bounds(bits, d):
    """Each plain bound by its name, where it's told."""
    found = {
        "balls": 2 ** bits // sum(1 for x in range(2 ** bits) if far(0, x) <= (d - 1) // 2),
        "cutting": 2 ** (bits - d + 1),
    }
    if 2 * d > bits:
        found["mean"] = 2 * d // (2 * d - bits)
    if d % 2 == 1 and 2 * (d + 1) > bits + 1:
        found["evening"] = 2 * (d + 1) // (2 * (d + 1) - (bits + 1))
    return found


def come_to(bits, numbers, i):
    return sum(numbers[k] * sign_sum(bits, k, i) for k in range(bits + 1))


def is_proof(bits, d, numbers):
    return (min(numbers) >= 0 and numbers[0] >= 1
            and all(come_to(bits, numbers, i) <= 0 for i in range(d, bits + 1)))


def spread_sums(bits, d, numbers):
    """For each k from 1 on what isn't below 0 for a spread."""
    return [sign_sum(bits, k, 0) + sum(number * sign_sum(bits, k, d + place) for place, number in enumerate(numbers))
            for k in range(1, bits + 1)]


def is_spread(bits, d, numbers):
    return min(numbers) >= 0 and min(spread_sums(bits, d, numbers)) >= 0


def unit(many, place):
    return [int(other == place) for other in range(many)]


@lru_cache(maxsize=None)
def best_proof(bits, d):
    """What the best proof comes to at 0, and its numbers but the first, by way of all corners there are."""
    rows = [(unit(bits, place), 0) for place in range(bits)]
    rows += [([-sign_sum(bits, k, i) for k in range(1, bits + 1)], -1) for i in range(d, bits + 1)]
    return min((come_to(bits, [1] + point, 0), point) for point in vertices(rows))


@lru_cache(maxsize=None)
def greatest_spread(bits, d):
    """The greatest spread's numbers, all together and 1, and they, likewise."""
    many = bits - d + 1
    rows = [(unit(many, place), 0) for place in range(many)]
    rows += [([sign_sum(bits, k, i) for i in range(d, bits + 1)], sign_sum(bits, k, 0)) for k in range(1, bits + 1)]
    less, point = min((-sum(point), point) for point in vertices(rows))
    return 1 - less, point


def told(*fractions):
    """Fractions as they are told, one behind another."""
    return [part for number in fractions for part in Fraction(number).as_integer_ratio()]


def exchanged(word, i, j):
    swapped = {i: j, j: i}
    return sum(1 << swapped.get(bit, bit) for bit in ones(word))


class Model:
    """One object, by the document's words."""

    def __init__(self):
        self.bits = None
        self.now = None
        self.past = []
        self.undone = []

    def is_saying(self, kind, its):
        if kind > 5:
            return False
        if kind == 4:
            return its == []
        return len(its) == 1 and its[0] <= (self.bits if kind < 4 else 2 ** self.bits - 1)

    def so(self, words, kind, its):
        if kind == 0:
            return all(far(a, b) >= its[0] for a in words for b in words if a != b)
        if kind == 1:
            return strength(self.bits, words) >= its[0]
        if kind == 2:
            return min(hit(self.bits, words, its[0])) >= 1
        if kind == 3:
            return len(set(hit(self.bits, words, its[0]))) == 1
        if kind == 4:
            return is_closed(words)
        return even(self.bits, words, its[0])

    def change(self, d, words, report):
        self.past.append(self.now)
        del self.past[:-10]
        self.now = (d, frozenset(words), tuple(report))
        self.undone = []

    def reword(self, words, number=None):
        d, report = self.now[0], self.now[2]
        struck = [i for i, (kind, its) in enumerate(report) if not self.so(words, kind, list(its))]
        self.change(d, words, [line for i, line in enumerate(report) if i not in struck])
        return [len(words) if number is None else number] + struck

    def answer(self, name, *told):
        if name == "begin":
            bits, d = told
            if not (1 <= bits <= 6 and 1 <= d <= bits):
                return [-22]
            self.__init__()
            self.bits = bits
            self.now = (d, frozenset(), ())
            return [0]
        if self.bits is None:
            return [-61]
        if name in ("put", "take", "move", "tilt", "off", "mend") and told[0] >= 2 ** self.bits:
            return [-22]
        if name in ("evenly", "in_the_way") and told[0] > self.bits:
            return [-22]
        return getattr(self, "call_" + name)(*told)

    def call_put(self, x):
        return [-17] if x in self.now[1] else self.reword(self.now[1] | {x})

    def call_take(self, x):
        return self.reword(self.now[1] - {x}) if x in self.now[1] else [-2]

    def call_rest(self):
        return self.reword(set(range(2 ** self.bits)) - self.now[1])

    def call_move(self, y):
        return self.reword({w ^ y for w in self.now[1]}, 0)

    def call_swap(self, i, j):
        if max(i, j) >= self.bits:
            return [-2]
        return self.reword({exchanged(w, i, j) for w in self.now[1]}, 0)

    def call_close(self):
        words = set(self.now[1])
        while not is_closed(words):
            words |= {a ^ b for a in words for b in words}
        return self.reword(words)

    def call_fill(self):
        words = set(self.now[1])
        for x in range(2 ** self.bits):
            if all(far(x, w) >= self.now[0] for w in words):
                words.add(x)
        return self.reword(words)

    def call_goal(self, d):
        if not 1 <= d <= self.bits:
            return [-22]
        old = self.now[0]
        self.change(d, self.now[1], self.now[2])
        return [old]

    def call_note(self, kind, its):
        d, words, report = self.now
        if not self.is_saying(kind, its):
            return [-22]
        if not self.so(words, kind, its):
            return [-13]
        if (kind, tuple(its)) in report:
            return [-17]
        if len(report) == 8:
            return [-28]
        self.change(d, words, report + ((kind, tuple(its)),))
        return [len(report)]

    def call_strike(self, i):
        d, words, report = self.now
        if i >= len(report):
            return [-2]
        self.change(d, words, report[:i] + report[i + 1:])
        return [len(report) - 1]

    def call_back(self):
        if not self.past:
            return [-2]
        self.undone.append(self.now)
        self.now = self.past.pop()
        return [len(self.past)]

    def call_again(self):
        if not self.undone:
            return [-2]
        self.past.append(self.now)
        self.now = self.undone.pop()
        return [len(self.undone)]

    def call_words(self):
        return [len(self.now[1])] + sorted(self.now[1])

    def call_twos(self):
        return [self.bits + 1] + twos(self.bits, self.now[1])

    def call_sums(self):
        return [self.bits + 1] + sums(self.bits, self.now[1])

    def call_tilt(self, u):
        return [0, tilt(self.now[1], u)]

    def call_strength(self):
        return [strength(self.bits, self.now[1])]

    def call_uneven(self):
        return uneven(self.bits, self.now[1])

    def call_least(self):
        return [min((far(a, b) for a in self.now[1] for b in self.now[1] if a != b), default=-33)]

    def near(self, x):
        """Each word by how far it is from x, the nearest first."""
        return sorted((far(x, w), w) for w in self.now[1])

    def call_off(self, x):
        near = self.near(x)
        return [near[0][0], sum(1 for apart, _ in near if apart == near[0][0])] if near else [-6]

    def call_mend(self, x):
        near = self.near(x)
        return [near[0][1]] + self.call_off(x) if near else [-6]

    def call_more(self):
        found = [x for x in range(2 ** self.bits) if all(far(x, w) >= self.now[0] for w in self.now[1])]
        return [len(found)] + found

    def call_bound(self):
        return [min(plain_bounds(self.bits, self.now[0]).values())]

    def call_proves(self, numbers):
        if len(numbers) != self.bits + 1 or any(number > 1000 for number in numbers):
            return [-22]
        if not is_proof(self.bits, self.now[0], numbers):
            return [-33]
        bound = Fraction(come_to(self.bits, numbers, 0), numbers[0])
        return [int(bound)] + told(bound)

    def call_best_proof(self):
        bound, numbers = best_proof(self.bits, self.now[0])
        return [int(bound)] + told(bound, *numbers)

    def call_spread(self):
        together, numbers = greatest_spread(self.bits, self.now[0])
        return [len(numbers)] + told(*numbers, together)

    def call_held(self):
        words = self.now[1]
        if not words:
            return [-6]
        return [self.bits + 1] + told(*[Fraction(many, len(words)) for many in twos(self.bits, words)])

    def call_evenly(self, r):
        often = set(hit(self.bits, self.now[1], r))
        return list(often) if len(often) == 1 else [-33]

    def call_in_the_way(self, r):
        found = in_the_way(self.bits, self.now[1], r)
        return [len(found)] + found

    def call_radius(self):
        if not self.now[1]:
            return [-6]
        return [min(r for r in range(self.bits + 1) if min(hit(self.bits, self.now[1], r)) >= 1)]

    def call_reach(self):
        return [max(r for r in range(self.bits + 1) if max(hit(self.bits, self.now[1], r)) <= 1)]

    def call_so(self, kind, its):
        return [int(self.so(self.now[1], kind, its))] if self.is_saying(kind, its) else [-22]

    def call_all_of(self, kind):
        if kind == 4 or kind > 5:
            return [-22]
        numbers = range(2 ** self.bits if kind == 5 else self.bits + 1)
        found = [number for number in numbers if self.so(self.now[1], kind, [number])]
        return [len(found)] + found

    def call_report(self):
        return [len(self.now[2])]

    def call_line(self, i):
        if i >= len(self.now[2]):
            return [-2]
        kind, its = self.now[2][i]
        return [kind, *its]

    def call_state(self):
        return [self.bits, self.now[0], len(self.now[1]), len(self.now[2])]
