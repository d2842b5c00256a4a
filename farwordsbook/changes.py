"""The calls from begin to again: each answers a list, a refusal alone or a number and what else is told."""

from farwordsbook.book import Page
from farwordsbook.sayings import is_saying, is_so
from farwordsbook.wordsets import closed, filled, is_word, moved, swapped, with_word, without_word, words_not_there


def begin(book, bits, d):
    """The object anew, if there can be so many bits and such a goal."""
    if bits < 1 or bits > 6 or d < 1 or d > bits:
        return [-22]
    book.renew(bits, d)
    return [0]


def change_words(book, words):
    """Other words are there, and lines that aren't so of them are struck: the numbers that these had."""
    page = book.page
    struck = []
    kept = []
    for number, saying in enumerate(page.lines):
        if is_so(book.bits, words, saying):
            kept.append(saying)
        else:
            struck.append(number)
    book.turn(Page(page.goal, words, kept))
    return struck


def change_and_count(book, words):
    """Other words are there: how many, then the lines that are struck."""
    return [len(words)] + change_words(book, words)


def put(book, word):
    """A word that isn't there is put in."""
    if not is_word(book.bits, word):
        return [-22]
    if word in book.page.words:
        return [-17]
    return change_and_count(book, with_word(book.page.words, word))


def take(book, word):
    """A word that is there is taken out."""
    if not is_word(book.bits, word):
        return [-22]
    if word not in book.page.words:
        return [-2]
    return change_and_count(book, without_word(book.page.words, word))


def rest(book):
    """The words that weren't there are there instead."""
    return change_and_count(book, words_not_there(book.bits, book.page.words))


def move(book, step):
    """Each word becomes both together, it and the step."""
    if not is_word(book.bits, step):
        return [-22]
    return [0] + change_words(book, moved(book.page.words, step))


def swap(book, i, j):
    """Two bits are exchanged in each word."""
    if i >= book.bits or j >= book.bits:
        return [-2]
    return [0] + change_words(book, swapped(book.page.words, i, j))


def close(book):
    """The words are closed under sums."""
    return change_and_count(book, closed(book.page.words))


def fill(book):
    """The words are filled up, rising, with those that are far enough from all."""
    return change_and_count(book, filled(book.bits, book.page.words, book.page.goal))


def goal(book, d):
    """Another goal: what it was."""
    if d < 1 or d > book.bits:
        return [-22]
    page = book.page
    book.turn(Page(d, page.words, page.lines))
    return [page.goal]


def note(book, kind, its):
    """A saying that is so becomes the report's last line: its number."""
    page = book.page
    saying = [kind] + its
    if not is_saying(book.bits, saying):
        return [-22]
    if not is_so(book.bits, page.words, saying):
        return [-13]
    if saying in page.lines:
        return [-17]
    if len(page.lines) == 8:
        return [-28]
    book.turn(Page(page.goal, page.words, page.lines + [saying]))
    return [len(page.lines)]


def strike(book, number):
    """A line is struck: how many are left."""
    page = book.page
    if number >= len(page.lines):
        return [-2]
    left = page.lines[:number] + page.lines[number + 1:]
    book.turn(Page(page.goal, page.words, left))
    return [len(left)]


def back(book):
    """The last change is taken back: how many can still be."""
    if not book.past:
        return [-2]
    book.turn_back()
    return [len(book.past)]


def again(book):
    """What was taken back last is done again: how many can still be."""
    if not book.undone:
        return [-2]
    book.turn_again()
    return [len(book.undone)]
