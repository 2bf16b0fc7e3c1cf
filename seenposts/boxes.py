"""How many places of a box can be seen together, and which."""

from seenposts.arithmetic import places_in, primes_to
from seenposts.counts import multiples
from seenposts.errors import InvalidNumber, InvalidSize
from seenposts.pictures import Picture
from seenposts.places import remainders
from seenposts.shows import all_remainders, led_to


def check_sides(sides):
    """Raise an error if a list does not tell the sides of a box."""
    if len(sides) not in (2, 3):
        raise InvalidSize(len(sides))
    for side in sides:
        if side < 1:
            raise InvalidNumber(side)


def barring_primes(sides):
    """Return the primes by which a box has all remainders, ascending."""
    return primes_to(min(sides))


def box_places(sides):
    """Return the places of a box, ascending."""
    return places_in((0,) * len(sides), tuple([side - 1 for side in sides]))


def many_with(sides, divisor, told):
    """Return how many places of a box have these remainders by an integer."""
    low = tuple([-number for number in told])
    high = tuple([side - 1 - number for side, number in zip(sides, told)])
    return multiples(low, high, divisor)


def with_key(part, prime, told):
    """Return the part of the places of a part that have these remainders by a prime."""
    divisor, rest, sign = part
    both = [led_to(start, divisor, -number, prime) for start, number in zip(rest, told)]
    return divisor * prime, tuple(both), -sign


def many_free(sides, keys):
    """Return how many places of a box have none of the remainders that a list of keys tells."""
    # A part tells the places with the remainders of some of the keys, which are those with certain
    # remainders by the product of the primes, and its sign: -1 if these keys are an odd number.
    parts = [(1, (0,) * len(sides), 1)]
    for prime, told in keys:
        parts = parts + [with_key(part, prime, told) for part in parts]
    return sum([sign * many_with(sides, divisor, rest) for divisor, rest, sign in parts])


def key_lists(sides):
    """Return all lists of keys: one tuple of remainders by each prime that could bar a box."""
    found = [[]]
    for prime in barring_primes(sides):
        keys = [(prime, told) for told in all_remainders(prime, len(sides))]
        found = [some + [key] for some in found for key in keys]
    return found


def key_list(sides):
    """Return keys such that as many places as can be of a box have none of their remainders."""
    check_sides(sides)
    found = key_lists(sides)
    numbers = [many_free(sides, keys) for keys in found]
    return found[numbers.index(max(numbers))]


def most_seen(sides):
    """Return the greatest number of places of a box that can be seen together."""
    return many_free(sides, key_list(sides))


def seen_lot(sides):
    """Return a possible picture with as many seen places of a box as can be."""
    keys = key_list(sides)
    places = [place for place in box_places(sides)
              if not any([remainders(place, prime) == told for prime, told in keys])]
    return Picture(len(sides), places, [])


def are_remainders(told, prime, size):
    """Return True if a tuple could be the remainders of a place by a prime, otherwise False."""
    return len(told) == size and all([0 <= number < prime for number in told])


def judge_keys(sides, told, many):
    """Return True if a list has one key for each prime, and so many places have none of them."""
    check_sides(sides)
    if [key[0] for key in told] != barring_primes(sides):
        return False
    if not all([are_remainders(rest, prime, len(sides)) for prime, rest in told]):
        return False
    return many_free(sides, told) == many


def class_masks(places, prime):
    """Return, for each remainders of some places, an integer with a bit for each place with them."""
    masks = {}
    for at, place in enumerate(places):
        told = remainders(place, prime)
        masks[told] = masks.get(told, 0) | (1 << at)
    return list(masks.values())


def number_of_sets(sides):
    """Return how many sets of places of a box can be the seen ones of a possible picture."""
    check_sides(sides)
    places = box_places(sides)
    # A set is an integer with a bit for each of its places.
    found = list(range(1 << len(places)))
    for prime in barring_primes(sides):
        masks = class_masks(places, prime)
        found = [some for some in found if any([(some & mask) == 0 for mask in masks])]
    return len(found)
