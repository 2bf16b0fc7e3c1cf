"""How thick the shifts lie at which pictures are shown, with exact bounds from both sides."""

from seenposts.arithmetic import common_divisor, primes_to
from seenposts.errors import InvalidNumber
from seenposts.shows import first_places, many_remainders


def class_count(places, prime):
    """Return the number of different remainders of a list of places by a prime."""
    if prime not in (2, 3, 5, 7):
        raise InvalidNumber(prime)
    return len(first_places(places, prime))


def subsets(places):
    """Return the lists of some of the places, none and all included."""
    found = [[]]
    for place in places:
        found = found + [some + [place] for some in found]
    return found


def last_bottom(size, limit):
    """Return the bottom of the last factor of a bound from below."""
    return limit if size == 2 else 2 * limit * limit


def whole_bottom(size, limit):
    """Return a common bottom of the bounds of all lists of places."""
    bottom = last_bottom(size, limit)
    for prime in primes_to(limit):
        bottom *= many_remainders(prime, size)
    return bottom


def tops(places, size, limit):
    """Return the tops, over the common bottom, of the bounds of the thickness of a list of places."""
    top = 1
    for prime in primes_to(limit):
        top *= many_remainders(prime, size) - len(first_places(places, prime))
    last = last_bottom(size, limit)
    return top * max(0, last - len(places)), top * last


def fraction(top, bottom):
    """Return a fraction in lowest terms, 0 in place of one below it and 1 in place of one above."""
    top = min(max(top, 0), bottom)
    divisor = common_divisor((top, bottom))
    return top // divisor, bottom // divisor


def thickness(picture, limit):
    """Return bounds of the thickness of a picture from below and from above, as two fractions."""
    if limit < 2:
        raise InvalidNumber(limit)
    below = above = 0
    for some in subsets(picture.hidden):
        least, greatest = tops(picture.seen + some, picture.size, limit)
        if len(some) % 2 == 1:
            least, greatest = -greatest, -least
        below += least
        above += greatest
    bottom = whole_bottom(picture.size, limit)
    return fraction(below, bottom), fraction(above, bottom)


def is_thicker(one, other, limit):
    """Return True if the one picture is surely thicker than the other one, by the bounds."""
    below, above = thickness(one, limit)[0], thickness(other, limit)[1]
    return below[0] * above[1] > above[0] * below[1]
