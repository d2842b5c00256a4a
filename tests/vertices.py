"""All corners of what rows leave: slow, and by another way than the program's."""

from fractions import Fraction
from itertools import combinations


def met(rows):
    """The one point at which each row (numbers, one more) is 0, or None if there isn't just one."""
    many = len(rows)
    table = [[Fraction(number) for number in numbers] + [Fraction(-more)] for numbers, more in rows]
    for column in range(many):
        found = next((row for row in range(column, many) if table[row][column]), None)
        if found is None:
            return None
        table[column], table[found] = table[found], table[column]
        table[column] = [number / table[column][column] for number in table[column]]
        for row in range(many):
            if row != column and table[row][column]:
                factor = table[row][column]
                table[row] = [a - factor * b for a, b in zip(table[row], table[column])]
    return [row[-1] for row in table]


def vertices(rows):
    """All points at which no row is below 0, and as many of them as a point has numbers are 0."""
    found = []
    for chosen in combinations(rows, len(rows[0][0])):
        point = met(chosen)
        if point is not None and point not in found:
            if all(sum(a * b for a, b in zip(numbers, point)) + more >= 0 for numbers, more in rows):
                found.append(point)
    return found
