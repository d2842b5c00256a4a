"""Balls round words, and how often each word is hit by them."""

from farwordsbook.distances import sign_sums
from farwordsbook.tilts import tilt_of
from farwordsbook.wordsets import weight


def ball(bits, radius):
    """The words of the ball round 0; those of the ball round another word are each of them and it together."""
    return [word for word in range(1 << bits) if weight(word) <= radius]


def hits(bits, words, radius):
    """How often each word, from 0 on, lies in a ball of the radius round one of the words."""
    found = [0] * (1 << bits)
    steps = ball(bits, radius)
    for centre in words:
        for step in steps:
            found[centre ^ step] += 1
    return found


def are_separate(bits, words, radius):
    """Whether no word is hit twice."""
    return max(hits(bits, words, radius)) < 2


def do_cover(bits, words, radius):
    """Whether each word is hit."""
    return min(hits(bits, words, radius)) > 0


def hit_evenly(bits, words, radius):
    """Whether each word is hit equally often."""
    found = hits(bits, words, radius)
    return min(found) == max(found)


def in_its_way(bits, words, radius):
    """The sets of places that are in the way of balls of the radius hitting evenly, rising."""
    round_sums = [sum(sign_sums(bits, size)[:radius + 1]) for size in range(bits + 1)]
    found = []
    for places in range(1, 1 << bits):
        if round_sums[weight(places)] != 0 and tilt_of(words, places) != 0:
            found.append(places)
    return found
