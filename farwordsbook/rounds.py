"""The calls about balls round the words: each answers a list, a refusal alone or a number and what else is told."""

from farwordsbook.balls import are_separate, do_cover, hit_evenly, hits, in_its_way
from farwordsbook.looks import counted


def evenly(book, r):
    """How often each word is hit, if all are equally often."""
    if r > book.bits:
        return [-22]
    if not hit_evenly(book.bits, book.page.words, r):
        return [-33]
    return [hits(book.bits, book.page.words, r)[0]]


def in_the_way(book, r):
    """The sets of places that are in the way."""
    if r > book.bits:
        return [-22]
    return counted(in_its_way(book.bits, book.page.words, r))


def radius(book):
    """The least r so that balls cover."""
    if not book.page.words:
        return [-6]
    r = 0
    while not do_cover(book.bits, book.page.words, r):
        r = r + 1
    return [r]


def reach(book):
    """The greatest r, up to the bits, so that balls are apart."""
    r = book.bits
    # No word is hit twice by balls of 0, so this ends there at the latest.
    while not are_separate(book.bits, book.page.words, r):
        r = r - 1
    return [r]
