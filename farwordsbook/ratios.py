"""Fractions, told as two whole numbers, above and below, with nothing in common."""


def common(one, other):
    """The greatest whole number that both are so many times of; with 0 it is the other."""
    while other != 0:
        rest = one % other
        one = other
        other = rest
    return one


def fraction(above, below):
    """One number by another, of which none is below 0 and the other isn't 0, as told."""
    shared = common(above, below)
    return [above // shared, below // shared]


def fractions_by(numbers, below):
    """Each number by the same, one fraction behind another."""
    found = []
    for number in numbers:
        found.extend(fraction(number, below))
    return found


def without_common(numbers):
    """The numbers, not all 0, by what they all have in common."""
    shared = 0
    for number in numbers:
        shared = common(shared, abs(number))
    return [number // shared for number in numbers]
