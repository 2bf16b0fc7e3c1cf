"""Tuples of integers and matrices over them, for the other files."""

from math import gcd


def common_divisor(place):
    """Return the greatest common divisor of the coordinates, 0 if all of them are 0."""
    found = 0
    for number in place:
        found = gcd(found, number)
    return found


def added(place, shift):
    """Return the sum of a place and a shift, coordinate by coordinate."""
    return tuple([number + more for number, more in zip(place, shift)])


def image(rows, place):
    """Return the place to which a matrix leads a place."""
    return tuple([sum([entry * number for entry, number in zip(row, place)]) for row in rows])


def determinant(rows):
    """Return the determinant of a matrix with 2 rows of 2 entries, or 3 rows of 3."""
    if len(rows) == 2:
        (a, b), (c, d) = rows
        return a * d - b * c
    (a, b, c), (d, e, f), (g, h, k) = rows
    return a * (e * k - f * h) - b * (d * k - f * g) + c * (d * h - e * g)


def keeps_posts(rows, size):
    """Return True if rows are a square matrix of a size with the determinant 1 or -1."""
    if len(rows) != size or any([len(row) != size for row in rows]):
        return False
    return determinant(rows) in (1, -1)
