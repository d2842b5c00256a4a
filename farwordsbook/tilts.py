"""How words tilt on sets of places, where they are even, and how strong they are."""

from farwordsbook.wordsets import weight


def tilt_of(words, places):
    """How many words have evenly many 1 on the places, less how many have oddly many."""
    odd = sum([weight(word & places) & 1 for word in words])
    return len(words) - 2 * odd


def is_even(words, places):
    """Whether every pattern on the places is had by just as many words."""
    counts = {}
    for word in words:
        pattern = word & places
        counts[pattern] = counts.get(pattern, 0) + 1
    # If each pattern that is had has its full share, none is left to be had by no word.
    patterns = 1 << weight(places)
    return all([count * patterns == len(words) for count in counts.values()])


def first_uneven(bits, words):
    """Of the sets with the fewest places that words aren't even on the one with the least number, or None."""
    # Sorting leaves sets of as many places in their rising order.
    for places in sorted(range(1 << bits), key=weight):
        if not is_even(words, places):
            return places
    return None


def strength_of(bits, words):
    """The greatest number of places so that the words are even on each set of so many."""
    places = first_uneven(bits, words)
    if places is None:
        return bits
    # Even on some places is even on fewer of them, so one place less than the first uneven set has is the greatest.
    return weight(places) - 1
