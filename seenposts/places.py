"""Single places: which are seen, and what stands before the others."""

from seenposts.arithmetic import common_divisor
from seenposts.errors import InvalidNumber, InvalidPlace


def check_place(place, size):
    """Raise an error if a place has not as many coordinates as the size."""
    if len(place) != size:
        raise InvalidPlace(place)


def check_any_place(place):
    """Raise an error if a place stands neither in the plane nor in space."""
    if len(place) not in (2, 3):
        raise InvalidPlace(place)


def divisor_of(place):
    """Return the common divisor of a place in the plane or in space."""
    check_any_place(place)
    return common_divisor(place)


def is_seen(place):
    """Return True if a place is seen from the eye, otherwise False."""
    return divisor_of(place) == 1


def between(place):
    """Return the number of posts that stand between the eye and a place."""
    # The eye's own place has the divisor 0, and nothing stands before it.
    return max(0, divisor_of(place) - 1)


def first_post(place):
    """Return the seen post on the way from the eye to a place."""
    divisor = divisor_of(place)
    if divisor == 0:
        return place
    return tuple([number // divisor for number in place])


def remainders(place, divisor):
    """Return the remainders of the coordinates by a divisor of at least 2."""
    check_any_place(place)
    if divisor < 2:
        raise InvalidNumber(divisor)
    return tuple([number % divisor for number in place])
