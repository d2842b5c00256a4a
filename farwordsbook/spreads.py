"""Spreads: numbers, one for each distance from the goal to the bits."""

from farwordsbook.corners import least_point
from farwordsbook.distances import sums_of


def spread_point(bits, goal, counts):
    """The first number, how far all are from as many as there are words, those from the goal on, and their sums."""
    missing = counts[0] * (1 << bits) - sum(counts)
    return counts[:1] + [missing] + counts[goal:] + sums_of(bits, counts)[1:]


def greatest_spread(bits, goal):
    """The greatest spread: by what all its numbers are, all together and 1, and its numbers."""
    # All sums together are what is missing, so with no sum below 0 nothing less than none can be missing.
    corner = spread_point(bits, goal, [1] + [0] * (bits - 1) + [(1 << bits) - 1])
    edges = [spread_point(bits, goal, [0] * bits + [-1])]
    for apart in range(goal, bits):
        # The last number makes up for this one, so that only the first edge alters what is missing.
        grown = [0] * bits + [-1]
        grown[apart] = 1
        edges.append(spread_point(bits, goal, grown))
    found = least_point(corner, edges)
    return [found[0], found[0] * (1 << bits) - found[1]] + found[2:bits - goal + 3]
