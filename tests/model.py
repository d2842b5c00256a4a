"""The document's words once more, as plainly and slowly as they stand, to hold the program's answers against."""

from itertools import combinations


def ones(word):
    return {bit for bit in range(40) if word >> bit & 1}


def far(one, other):
    return len(ones(one) ^ ones(other))


def places_of(bits, size):
    return sorted(sum(1 << bit for bit in chosen) for chosen in combinations(range(bits), size))


def twos(bits, words):
    return [sum(1 for a in words for b in words if far(a, b) == i) for i in range(bits + 1)]


def sign_sum(bits, k, i):
    told = set(range(i))
    return sum(1 if len(told & set(chosen)) % 2 == 0 else -1 for chosen in combinations(range(bits), k))


def sums(bits, words):
    counts = twos(bits, words)
    return [sum(counts[i] * sign_sum(bits, k, i) for i in range(bits + 1)) for k in range(bits + 1)]


def tilt(words, u):
    return sum(1 if len(ones(w) & ones(u)) % 2 == 0 else -1 for w in words)


def even(bits, words, u):
    patterns = [p for p in range(1 << bits) if ones(p) <= ones(u)]
    return len({sum(1 for w in words if ones(w) & ones(u) == ones(p)) for p in patterns}) == 1


def strength(bits, words):
    return max(t for t in range(bits + 1)
               if all(even(bits, words, u) for s in range(t + 1) for u in places_of(bits, s)))


def uneven(bits, words):
    for size in range(bits + 1):
        for u in places_of(bits, size):
            if not even(bits, words, u):
                return [size, u]
    return [-33]


def is_closed(words):
    return all(a ^ b in words for a in words for b in words)


def hit(bits, words, r):
    return [sum(1 for w in words if far(w, x) <= r) for x in range(1 << bits)]


def in_the_way(bits, words, r):
    found = []
    for u in range(1, 1 << bits):
        round_sum = sum(sign_sum(bits, k, len(ones(u))) for k in range(r + 1))
        if tilt(words, u) != 0 and round_sum != 0:
            found.append(u)
    return found


def exchanged(word, i, j):
    swapped = {i: j, j: i}
    return sum(1 << swapped.get(bit, bit) for bit in ones(word))


class Model:
    """One object, by the document's words."""

    def __init__(self):
        self.bits = None
        self.now = None
        self.past = []
        self.undone = []

    def is_saying(self, kind, its):
        if kind > 5:
            return False
        if kind == 4:
            return its == []
        return len(its) == 1 and its[0] <= (self.bits if kind < 4 else 2 ** self.bits - 1)

    def so(self, words, kind, its):
        if kind == 0:
            return all(far(a, b) >= its[0] for a in words for b in words if a != b)
        if kind == 1:
            return strength(self.bits, words) >= its[0]
        if kind == 2:
            return min(hit(self.bits, words, its[0])) >= 1
        if kind == 3:
            return len(set(hit(self.bits, words, its[0]))) == 1
        if kind == 4:
            return is_closed(words)
        return even(self.bits, words, its[0])

    def change(self, d, words, report):
        self.past.append(self.now)
        del self.past[:-10]
        self.now = (d, frozenset(words), tuple(report))
        self.undone = []

    def reword(self, words, number=None):
        d, report = self.now[0], self.now[2]
        struck = [i for i, (kind, its) in enumerate(report) if not self.so(words, kind, list(its))]
        self.change(d, words, [line for i, line in enumerate(report) if i not in struck])
        return [len(words) if number is None else number] + struck

    def answer(self, name, *told):
        if name == "begin":
            bits, d = told
            if not (1 <= bits <= 6 and 1 <= d <= bits):
                return [-22]
            self.__init__()
            self.bits = bits
            self.now = (d, frozenset(), ())
            return [0]
        if self.bits is None:
            return [-61]
        if name in ("put", "take", "move", "tilt") and told[0] >= 2 ** self.bits:
            return [-22]
        return getattr(self, "call_" + name)(*told)

    def call_put(self, x):
        return [-17] if x in self.now[1] else self.reword(self.now[1] | {x})

    def call_take(self, x):
        return self.reword(self.now[1] - {x}) if x in self.now[1] else [-2]

    def call_rest(self):
        return self.reword(set(range(2 ** self.bits)) - self.now[1])

    def call_move(self, y):
        return self.reword({w ^ y for w in self.now[1]}, 0)

    def call_swap(self, i, j):
        if max(i, j) >= self.bits:
            return [-2]
        return self.reword({exchanged(w, i, j) for w in self.now[1]}, 0)

    def call_close(self):
        words = set(self.now[1])
        while not is_closed(words):
            words |= {a ^ b for a in words for b in words}
        return self.reword(words)

    def call_fill(self):
        words = set(self.now[1])
        for x in range(2 ** self.bits):
            if all(far(x, w) >= self.now[0] for w in words):
                words.add(x)
        return self.reword(words)

    def call_goal(self, d):
        if not 1 <= d <= self.bits:
            return [-22]
        old = self.now[0]
        self.change(d, self.now[1], self.now[2])
        return [old]

    def call_note(self, kind, its):
        d, words, report = self.now
        if not self.is_saying(kind, its):
            return [-22]
        if not self.so(words, kind, its):
            return [-13]
        if (kind, tuple(its)) in report:
            return [-17]
        if len(report) == 8:
            return [-28]
        self.change(d, words, report + ((kind, tuple(its)),))
        return [len(report)]

    def call_strike(self, i):
        d, words, report = self.now
        if i >= len(report):
            return [-2]
        self.change(d, words, report[:i] + report[i + 1:])
        return [len(report) - 1]

    def call_back(self):
        if not self.past:
            return [-2]
        self.undone.append(self.now)
        self.now = self.past.pop()
        return [len(self.past)]

    def call_again(self):
        if not self.undone:
            return [-2]
        self.past.append(self.now)
        self.now = self.undone.pop()
        return [len(self.undone)]

    def call_words(self):
        return [len(self.now[1])] + sorted(self.now[1])

    def call_twos(self):
        return [self.bits + 1] + twos(self.bits, self.now[1])

    def call_sums(self):
        return [self.bits + 1] + sums(self.bits, self.now[1])

    def call_tilt(self, u):
        return [0, tilt(self.now[1], u)]

    def call_strength(self):
        return [strength(self.bits, self.now[1])]

    def call_uneven(self):
        return uneven(self.bits, self.now[1])
