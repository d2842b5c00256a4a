"""Plain bounds: how many words there can be at most, any two of them so far apart at least."""

from farwordsbook.balls import ball


def by_balls(bits, goal):
    """All words by those in one ball, as balls of not quite half the goal are apart."""
    return (1 << bits) // len(ball(bits, (goal - 1) // 2))


def by_cutting(bits, goal):
    """As many as there are words of the bits that are left, as those stay different."""
    return 1 << (bits - goal + 1)


def by_mean(bits, goal):
    """The bound by the mean, alone in a list, or none where it isn't told."""
    if 2 * goal <= bits:
        return []
    return [2 * goal // (2 * goal - bits)]


def by_evening(bits, goal):
    """The bound by evening, alone in a list, or none where it isn't told."""
    if goal % 2 == 0:
        return []
    return by_mean(bits + 1, goal + 1)


def plain_bound(bits, goal):
    """The least of the plain bounds."""
    return min([by_balls(bits, goal), by_cutting(bits, goal)] + by_mean(bits, goal) + by_evening(bits, goal))
