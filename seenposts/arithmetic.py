"""Primes, tuples of integers, boxes and matrices, for the other files."""

from math import gcd, isqrt


def is_prime(number):
    """Return True if an integer of at least 2 is a prime."""
    return all([number % divisor != 0 for divisor in range(2, isqrt(number) + 1)])


def next_prime(number):
    """Return the least prime above an integer of at least 1."""
    number += 1
    while not is_prime(number):
        number += 1
    return number


def primes_to(most):
    """Return the primes up to an integer, ascending."""
    return [number for number in range(2, most + 1) if is_prime(number)]


def prime_divisors(number):
    """Return the primes that divide an integer of at least 1, ascending, and none for 0."""
    found, divisor = [], 2
    while number > 1:
        if divisor * divisor > number:
            divisor = number
        if number % divisor == 0:
            found.append(divisor)
        while number % divisor == 0:
            number //= divisor
        divisor += 1
    return found


def signed_products(primes):
    """Return the products of some of a list of primes, with the sign -1 for an odd number of them."""
    found = [(1, 1)]
    for prime in primes:
        found = found + [(number * prime, -sign) for number, sign in found]
    return found


def common_divisor(place):
    """Return the greatest common divisor of the coordinates, 0 if all of them are 0."""
    found = 0
    for number in place:
        found = gcd(found, number)
    return found


def two_weights(one, other):
    """Return two integers that, times two others, sum up to the common divisor of these."""
    weights, further = (1, 0), (0, 1)
    while other != 0:
        many = one // other
        one, other = other, one - many * other
        weights, further = further, less(weights, (many * further[0], many * further[1]))
    return weights if one >= 0 else (-weights[0], -weights[1])


def weights_of(place):
    """Return integers that, times the coordinates, sum up to the common divisor of these."""
    divisor, found = 0, ()
    for number in place:
        before, last = two_weights(divisor, number)
        found = tuple([before * weight for weight in found]) + (last,)
        divisor = gcd(divisor, number)
    return found


def less(place, other):
    """Return a place less another one, coordinate by coordinate."""
    return tuple([number - more for number, more in zip(place, other)])


def added(place, shift):
    """Return the sum of a place and a shift, coordinate by coordinate."""
    return tuple([number + more for number, more in zip(place, shift)])


def least_corner(places):
    """Return the least value of each coordinate over a list of places that is not empty."""
    return tuple([min([place[axis] for place in places]) for axis in range(len(places[0]))])


def greatest_corner(places):
    """Return the greatest value of each coordinate over a list of places that is not empty."""
    return tuple([max([place[axis] for place in places]) for axis in range(len(places[0]))])


def is_empty_box(low, high):
    """Return True if no place has its coordinates from those of low to those of high."""
    return any([first > last for first, last in zip(low, high)])


def places_in(low, high):
    """Return the places with coordinates from those of low to those of high, ascending."""
    # An empty box may have long sides beside the empty one, too long to be gone through.
    if is_empty_box(low, high):
        return []
    places = [()]
    for first, last in zip(low, high):
        places = [place + (number,) for place in places for number in range(first, last + 1)]
    return places


def image(rows, place):
    """Return the place to which a matrix leads a place."""
    return tuple([sum([entry * number for entry, number in zip(row, place)]) for row in rows])


def determinant(rows):
    """Return the determinant of a matrix with 2 rows of 2 entries, or 3 rows of 3."""
    if len(rows) == 2:
        (a, b), (c, d) = rows
        return a * d - b * c
    (a, b, c), (d, e, f), (g, h, k) = rows
    return a * (e * k - f * h) - b * (d * k - f * g) + c * (d * h - e * g)


def keeps_posts(rows, size):
    """Return True if rows are a square matrix of a size with the determinant 1 or -1."""
    if len(rows) != size or any([len(row) != size for row in rows]):
        return False
    return determinant(rows) in (1, -1)
