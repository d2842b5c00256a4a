"""The calls that tell how many words there can be: each answers a list, a refusal alone or a number and what else."""

from farwordsbook.bounds import plain_bound
from farwordsbook.proofs import come_to, is_proof, least_proof
from farwordsbook.ratios import fraction, fractions_by
from farwordsbook.spreads import greatest_spread


def bound(book):
    """The least plain bound for the goal."""
    return [plain_bound(book.bits, book.page.goal)]


def proves(book, numbers):
    """What numbers bound, if they're a proof."""
    if len(numbers) != book.bits + 1 or max(numbers) > 1000:
        return [-22]
    if not is_proof(book.bits, book.page.goal, numbers):
        return [-33]
    come = come_to(book.bits, numbers)[0]
    return [come // numbers[0]] + fraction(come, numbers[0])


def best_proof(book):
    """What the best proof bounds, then its numbers but the first."""
    found = least_proof(book.bits, book.page.goal)
    return [found[1] // found[0]] + fractions_by(found[1:], found[0])


def spread(book):
    """The greatest spread's numbers, then all together, and 1."""
    found = greatest_spread(book.bits, book.page.goal)
    numbers = found[2:]
    return [len(numbers)] + fractions_by(numbers, found[0]) + fraction(found[1], found[0])
