"""Twos of words by distances, and their sums."""

from farwordsbook.wordsets import weight


def count_twos(bits, words):
    """How many twos there are at distance 0, 1 and so on, in both orders, a word with itself too."""
    weights = [weight(word) for word in range(1 << bits)]
    counts = [0] * (bits + 1)
    for one in words:
        for other in words:
            counts[weights[one ^ other]] += 1
    return counts


def are_apart(bits, words, least):
    """Whether any two different words are so far apart at least."""
    return sum(count_twos(bits, words)[1:least]) == 0


def sign_sums(bits, told):
    """The sign sums of 0, 1 and so on, and so many told ones."""
    found = [1]
    for bit in range(bits):
        # A set either leaves this bit out, or has it and then one place less among the others.
        sign = -1 if bit < told else 1
        without = found + [0]
        having = [0] + [sign * number for number in found]
        found = [without[size] + having[size] for size in range(len(without))]
    return found


def sums_of(bits, counts):
    """The 0-th sum, the first and so on, of so many at distance 0, 1 and so on."""
    found = [0] * (bits + 1)
    for apart in range(bits + 1):
        signs = sign_sums(bits, apart)
        found = [found[size] + counts[apart] * signs[size] for size in range(bits + 1)]
    return found


def sum_twos(bits, words):
    """The sums of the twos, from the 0-th on."""
    return sums_of(bits, count_twos(bits, words))
