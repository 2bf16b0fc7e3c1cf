"""How many places of a box are seen, and at which of its shifts a picture is shown."""

from seenposts.arithmetic import is_empty_box, places_in
from seenposts.places import check_any_place, check_place
from seenposts.shows import shows


def multiples(low, high, divisor):
    """Return how many places of a box that is not empty have coordinates with a common divisor."""
    many = 1
    for first, last in zip(low, high):
        many *= last // divisor - (first - 1) // divisor
    return many


def count_seen(low, high):
    """Return the number of seen places of a box."""
    check_any_place(low)
    check_place(high, len(low))
    if is_empty_box(low, high):
        return 0
    most = max([abs(number) for number in low + high])
    # The place of the eye has every divisor, and no greatest one.
    eyes = 1 if all([first <= 0 <= last for first, last in zip(low, high)]) else 0
    exactly = {}
    for divisor in range(most, 0, -1):
        greater = sum([exactly[other] for other in range(2 * divisor, most + 1, divisor)])
        exactly[divisor] = multiples(low, high, divisor) - eyes - greater
    return exactly.get(1, 0)


def shown_in(picture, low, high):
    """Return the shifts of a box at which a picture is shown, ascending."""
    for place in (low, high):
        check_place(place, picture.size)
    return [shift for shift in places_in(low, high) if shows(picture, shift)]


def count_shown(picture, low, high):
    """Return the number of shifts of a box at which a picture is shown."""
    return len(shown_in(picture, low, high))


def greatest_number(place):
    """Return the greatest coordinate of a place, without its sign."""
    return max([abs(number) for number in place])


def first_shown(picture, most):
    """Return the first shift, from the eye outwards, at which a picture is shown, or None."""
    size = picture.size
    shifts = places_in((-most,) * size, (most,) * size)
    for shift in sorted(shifts, key=greatest_number):
        if shows(picture, shift):
            return shift
    return None
