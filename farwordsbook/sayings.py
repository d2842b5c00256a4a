"""Sayings: a kind, then its number if it has one, in one list."""

from farwordsbook.balls import do_cover, hit_evenly
from farwordsbook.distances import are_apart
from farwordsbook.tilts import is_even, strength_of
from farwordsbook.wordsets import is_closed


def numbers_of(bits, kind):
    """The numbers that sayings of the kind may have; none for the kind without a number, and where there's no such."""
    if kind < 4:
        return list(range(bits + 1))
    if kind == 5:
        return list(range(1 << bits))
    return []


def is_saying(bits, saying):
    """Whether there is such a kind, and its number is as told."""
    if len(saying) == 1:
        return saying[0] == 4
    return saying[1] in numbers_of(bits, saying[0])


def is_so(bits, words, saying):
    """Whether the saying is so of the words."""
    kind = saying[0]
    if kind == 0:
        return are_apart(bits, words, saying[1])
    if kind == 1:
        return strength_of(bits, words) >= saying[1]
    if kind == 2:
        return do_cover(bits, words, saying[1])
    if kind == 3:
        return hit_evenly(bits, words, saying[1])
    if kind == 4:
        return is_closed(words)
    return is_even(words, saying[1])
