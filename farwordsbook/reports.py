"""The calls that look at sayings and the report: each answers a list, a refusal alone or a number and what else."""

from farwordsbook.looks import counted
from farwordsbook.sayings import is_saying, is_so, numbers_of


def so(book, kind, its):
    """Whether a saying is so."""
    saying = [kind] + its
    if not is_saying(book.bits, saying):
        return [-22]
    return [int(is_so(book.bits, book.page.words, saying))]


def all_of(book, kind):
    """The numbers of which the kind is so."""
    numbers = numbers_of(book.bits, kind)
    if not numbers:
        return [-22]
    words = book.page.words
    return counted([number for number in numbers if is_so(book.bits, words, [kind, number])])


def report(book):
    """How many lines the report has."""
    return [len(book.page.lines)]


def line(book, number):
    """A line of the report: its kind, then its number, if it has one."""
    if number >= len(book.page.lines):
        return [-2]
    return list(book.page.lines[number])


def state(book):
    """How many bits; then the goal, how many words, how many lines."""
    page = book.page
    return [book.bits, page.goal, len(page.words), len(page.lines)]
