"""The least of the points that are told by rows of numbers, none of which may be below 0.

A point is a list of whole numbers; all of them are by its first, which is above 0. An edge is a list likewise, of what
each number grows by along it; its first is 0. Of two points that one is less whose number is where they first differ.
"""

from farwordsbook.ratios import without_common


def least_point(corner, edges):
    """The least point with no number below 0, among those that lie from a corner along its edges.

    Each edge must have its first number but 0 above 0, and there must be such a point.
    """
    while min(corner) < 0:
        place = first_below(corner)
        edge = least_edge(edges, place)
        corner = brought_to_0(corner, edge, place)
        edges = [other if other == edge else brought_to_0(other, edge, place) for other in edges]
    return corner


def first_below(numbers):
    """The place of the first number below 0; there must be one."""
    place = 0
    while numbers[place] >= 0:
        place = place + 1
    return place


def least_edge(edges, place):
    """Of the edges along which the number at the place grows that along which all grow least, for as much there."""
    # With any other, an edge would be left whose first number but 0 is below 0, and points would become less along it.
    found = None
    for edge in edges:
        if edge[place] > 0 and (found is None or times(edge, found[place]) < times(found, edge[place])):
            found = edge
    return found


def times(numbers, factor):
    """Each number so many times."""
    return [number * factor for number in numbers]


def brought_to_0(numbers, edge, place):
    """A point or an edge and so much of another edge, which is above 0 at the place, that it's 0 there."""
    # Both are taken so many times that all stay whole; what a point's numbers are by is taken as many times.
    found = [number * edge[place] - numbers[place] * grown for number, grown in zip(numbers, edge)]
    return without_common(found)
