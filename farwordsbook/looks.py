"""The calls that only look at the words: each answers a list, a refusal alone or a number and what else is told."""

from farwordsbook.distances import count_twos, sum_twos
from farwordsbook.tilts import first_uneven, strength_of, tilt_of
from farwordsbook.wordsets import is_word, weight


def counted(numbers):
    """How many numbers there are, then they."""
    return [len(numbers)] + numbers


def words(book):
    """The words there are, rising."""
    return counted(book.page.words)


def twos(book):
    """How many twos there are at each distance."""
    return counted(count_twos(book.bits, book.page.words))


def sums(book):
    """The sums from the 0-th on."""
    return counted(sum_twos(book.bits, book.page.words))


def tilt(book, places):
    """The tilt of a set of places."""
    if not is_word(book.bits, places):
        return [-22]
    return [0, tilt_of(book.page.words, places)]


def strength(book):
    """The strength of the words."""
    return [strength_of(book.bits, book.page.words)]


def uneven(book):
    """How many places the fewest are that the words aren't even on, then the first such set."""
    places = first_uneven(book.bits, book.page.words)
    if places is None:
        return [-33]
    return [weight(places), places]
