"""What else is hidden wherever a picture is shown, and what follows from a picture."""

from seenposts.arithmetic import greatest_corner, least_corner, places_in
from seenposts.errors import Barred, InvalidSize
from seenposts.pictures import Picture
from seenposts.places import check_place, remainders
from seenposts.shows import barring, find_shift, first_free, first_places, is_possible
from seenposts.shows import many_remainders, small_primes


def lone_remainders(picture):
    """Return, for each prime by which the seen places lack just one tuple, that tuple of remainders."""
    found = {}
    seen, size = picture.seen, picture.size
    for prime in small_primes(len(seen) + 1, size):
        taken = first_places(seen, prime)
        if len(taken) == many_remainders(prime, size) - 1:
            found[prime] = first_free(taken, prime, size)
    return found


def forcing(lone, place):
    """Return the first prime of a dict of lone remainders that forces a place, or None."""
    for prime, told in lone.items():
        if remainders(place, prime) == told:
            return prime
    return None


def word_of(picture, lone, place):
    """Return the status of a place, by the lone remainders of a picture."""
    word = picture.word(place)
    if word is not None:
        return word
    return "open" if forcing(lone, place) is None else "hidden"


def check_possible(picture):
    """Raise an error if a picture is not possible."""
    prime = barring(picture)
    if prime is not None:
        raise Barred(prime)


def check(picture, places):
    """Raise an error if a place has another size than a picture, or the picture is not possible."""
    for place in places:
        check_place(place, picture.size)
    check_possible(picture)


def check_sizes(one, other):
    """Raise an error if two pictures have unlike sizes."""
    if one.size != other.size:
        raise InvalidSize(other.size)


def status(picture, place):
    """Return "seen" or "hidden" if a place is told or forced so, otherwise "open"."""
    check(picture, [place])
    return word_of(picture, lone_remainders(picture), place)


def forced_by(picture, place):
    """Return the least prime that forces a place which is not told, None if there is none."""
    check(picture, [place])
    if place in picture:
        return None
    return forcing(lone_remainders(picture), place)


def both_ways(picture, place):
    """Return a shift where an open place is seen and one where it is hidden, None if not open."""
    if status(picture, place) != "open":
        return None
    seen = Picture(picture.size, picture.seen + [place], picture.hidden)
    hidden = Picture(picture.size, picture.seen, picture.hidden + [place])
    return find_shift(seen), find_shift(hidden)


def forced_in(picture, low, high):
    """Return the places of a box that are forced by a picture and not told in it, ascending."""
    check(picture, [low, high])
    lone = lone_remainders(picture)
    places = [place for place in places_in(low, high) if place not in picture]
    return [place for place in places if forcing(lone, place) is not None]


def follows(one, other):
    """Return True if the other picture is shown wherever the one is shown, otherwise False."""
    check_sizes(one, other)
    if not is_possible(one):
        return True
    lone = lone_remainders(one)
    words = [word_of(one, lone, place) for place in other.seen + other.hidden]
    return words == ["seen"] * len(other.seen) + ["hidden"] * len(other.hidden)


def alike(one, other):
    """Return True if two pictures are shown at the same shifts, otherwise False."""
    return follows(one, other) and follows(other, one)


def opposed(one, other):
    """Return True if two pictures are never both shown at one shift, otherwise False."""
    check_sizes(one, other)
    if any([other.word(place) == "hidden" for place in one.seen]):
        return True
    if any([other.word(place) == "seen" for place in one.hidden]):
        return True
    return not is_possible(one | other)


def whole(picture):
    """Return a picture with all forced places of the box around its places told."""
    if len(picture) == 0:
        return picture
    places = picture.seen + picture.hidden
    forced = forced_in(picture, least_corner(places), greatest_corner(places))
    return Picture(picture.size, picture.seen, picture.hidden + forced)
