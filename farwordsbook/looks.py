"""The calls that only look at the words: each answers a list, a refusal alone or a number and what else is told."""

from farwordsbook.distances import count_twos, sum_twos
from farwordsbook.ratios import fractions_by
from farwordsbook.tilts import first_uneven, strength_of, tilt_of
from farwordsbook.wordsets import distances_from, far_words, is_word, weight


def counted(numbers):
    """How many numbers there are, then they."""
    return [len(numbers)] + numbers


def words(book):
    """The words there are, rising."""
    return counted(book.page.words)


def twos(book):
    """How many twos there are at each distance."""
    return counted(count_twos(book.bits, book.page.words))


def sums(book):
    """The sums from the 0-th on."""
    return counted(sum_twos(book.bits, book.page.words))


def tilt(book, places):
    """The tilt of a set of places."""
    if not is_word(book.bits, places):
        return [-22]
    return [0, tilt_of(book.page.words, places)]


def strength(book):
    """The strength of the words."""
    return [strength_of(book.bits, book.page.words)]


def uneven(book):
    """How many places the fewest are that the words aren't even on, then the first such set."""
    places = first_uneven(book.bits, book.page.words)
    if places is None:
        return [-33]
    return [weight(places), places]


def least(book):
    """The least distance of two different words."""
    counts = count_twos(book.bits, book.page.words)
    for apart in range(1, book.bits + 1):
        if counts[apart] > 0:
            return [apart]
    return [-33]


def off(book, word):
    """How far a word is from the nearest of those there are, and how many are that near."""
    if not is_word(book.bits, word):
        return [-22]
    if not book.page.words:
        return [-6]
    found = distances_from(word, book.page.words)
    return [min(found), found.count(min(found))]


def mend(book, word):
    """The first of the words that are nearest to a word, how far it is, and how many are that near."""
    answer = off(book, word)
    if answer[0] < 0:
        return answer
    nearest = distances_from(word, book.page.words).index(answer[0])
    return [book.page.words[nearest]] + answer


def more(book):
    """The words that are as far as the goal from all there are."""
    return counted(far_words(book.bits, book.page.words, book.page.goal))


def held(book):
    """How many twos there are at each distance, by how many words."""
    words_there = book.page.words
    if not words_there:
        return [-6]
    return [book.bits + 1] + fractions_by(count_twos(book.bits, words_there), len(words_there))
