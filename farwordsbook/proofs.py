"""Proofs: numbers, one for each k from 0 to the bits, that bound how many words there can be."""

from farwordsbook.corners import least_point
from farwordsbook.distances import sign_sums


def come_to(bits, numbers):
    """What the numbers come to at distance 0, 1 and so on."""
    found = []
    for apart in range(bits + 1):
        signs = sign_sums(bits, apart)
        found.append(sum([number * sign for number, sign in zip(numbers, signs)]))
    return found


def is_proof(bits, goal, numbers):
    """Whether numbers, none below 0, are a proof for words so far apart."""
    return numbers[0] >= 1 and max(come_to(bits, numbers)[goal:]) <= 0


def proof_point(bits, goal, numbers):
    """The first number, what they come to at 0, the others, and how far below 0 they come from the goal on."""
    found = come_to(bits, numbers)
    return numbers[:1] + found[:1] + numbers[1:] + [-number for number in found[goal:]]


def least_proof(bits, goal):
    """The best proof: its first number, by which all others are, what it comes to at 0, and its other numbers."""
    first = [1] + [0] * bits
    corner = proof_point(bits, goal, first)
    edges = [proof_point(bits, goal, [0] * bits + [1])]
    come = sign_sums(bits, 0)
    for size in range(1, bits):
        # The last number makes up for this one, so that only the first edge alters what they come to at 0.
        grown = [0] * bits + [-come[size]]
        grown[size] = 1
        edges.append(proof_point(bits, goal, grown))
    return least_point(corner, edges)[:bits + 2]
