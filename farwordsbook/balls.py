"""Balls round words, and how often each word is hit by them."""

from farwordsbook.wordsets import weight


def hits(bits, words, radius):
    """How often each word, from 0 on, lies in a ball of the radius round one of the words."""
    ball = [word for word in range(1 << bits) if weight(word) <= radius]
    found = [0] * (1 << bits)
    for centre in words:
        for step in ball:
            found[centre ^ step] += 1
    return found


def do_cover(bits, words, radius):
    """Whether each word is hit."""
    return min(hits(bits, words, radius)) > 0


def hit_evenly(bits, words, radius):
    """Whether each word is hit equally often."""
    found = hits(bits, words, radius)
    return min(found) == max(found)
