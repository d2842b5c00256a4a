"""Words of bits: weights, distances, and what becomes of words that are moved, exchanged, closed or filled up.

Lists of words are rising, and never changed: another list is made.
"""


def is_word(bits, number):
    """Whether a word, or a set of places, has only bits that there are."""
    return number < 1 << bits


def weight(word):
    """How many 1 the word has."""
    ones = 0
    while word > 0:
        ones += word & 1
        word = word >> 1
    return ones


def distance(one, other):
    """The weight of both words together."""
    return weight(one ^ other)


def with_word(words, word):
    """The words and one more."""
    return sorted(words + [word])


def without_word(words, word):
    """The words but one."""
    return [other for other in words if other != word]


def words_not_there(bits, words):
    """All words of so many bits that aren't among these."""
    return [word for word in range(1 << bits) if word not in words]


def moved(words, step):
    """Each word and the step together."""
    return sorted([word ^ step for word in words])


def exchanged(word, i, j):
    """The word, its bits i and j exchanged."""
    if (word >> i) & 1 == (word >> j) & 1:
        return word
    return word ^ (1 << i) ^ (1 << j)


def swapped(words, i, j):
    """The words, in each the bits i and j exchanged."""
    return sorted([exchanged(word, i, j) for word in words])


def closed(words):
    """The words, and all that come of putting two together again and again."""
    found = []
    for word in words:
        if not found:
            # A word with itself is 0, so 0 comes with the first word, and with none if there are none.
            found = [0]
        if word not in found:
            # What is found is closed by itself, so only sums with the new word are missing.
            found = found + [other ^ word for other in found]
    return sorted(found)


def is_closed(words):
    """Whether any two words together, a word with itself too, are there."""
    return closed(words) == words


def distances_from(word, words):
    """How far each of the words is from the word, in their order."""
    return [distance(word, other) for other in words]


def is_far(word, words, goal):
    """Whether the word is at a distance of the goal or more from all of the words."""
    return all([apart >= goal for apart in distances_from(word, words)])


def far_words(bits, words, goal):
    """All words that are at a distance of the goal or more from all of the words, rising."""
    return [word for word in range(1 << bits) if is_far(word, words, goal)]


def filled(bits, words, goal):
    """The words, and from 0 on each that is far enough from all that are there by then."""
    found = list(words)
    for word in range(1 << bits):
        if is_far(word, found, goal):
            found.append(word)
    return sorted(found)
