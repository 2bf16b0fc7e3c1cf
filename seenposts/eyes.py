"""Several eyes, at any places: what they see, and where they all can meet in sight."""

from seenposts.arithmetic import less, places_in
from seenposts.errors import Conflict
from seenposts.pictures import Picture, check_size, check_word
from seenposts.places import check_any_place, check_place, is_seen, remainders
from seenposts.shows import barring, find_shift


def check_eyes(eyes, size):
    """Raise an error for the first eye that has another number of coordinates."""
    for eye in eyes:
        check_place(eye, size)


def for_eyes(size, entries):
    """Return the picture of the places less the eyes that are to see them, or not."""
    check_size(size)
    words = {}
    for eye, place, word in entries:
        check_place(eye, size)
        check_place(place, size)
        check_word(word)
        difference = less(place, eye)
        if words.setdefault(difference, word) != word:
            raise Conflict(difference)
    seen = [place for place, word in words.items() if word == "seen"]
    hidden = [place for place, word in words.items() if word == "hidden"]
    return Picture(size, seen, hidden)


def sees(eye, place):
    """Return True if an eye sees a place, otherwise False."""
    return is_seen(less(place, eye))


def all_see(eyes, place):
    """Return True if all eyes see a place, otherwise False."""
    for eye in eyes:
        if not sees(eye, place):
            return False
    return True


def seen_by(eyes, place):
    """Return the indexes of the eyes that see a place, ascending."""
    check_any_place(place)
    check_eyes(eyes, len(place))
    return [at for at, eye in enumerate(eyes) if sees(eye, place)]


def in_sight(eyes, low, high):
    """Return the places of a box that all eyes see, ascending."""
    check_any_place(low)
    check_place(high, len(low))
    check_eyes(eyes, len(low))
    return [place for place in places_in(low, high) if all_see(eyes, place)]


def common_sight(size, eyes):
    """Return the picture that is shown at just those shifts that, as places, all eyes see."""
    check_size(size)
    return for_eyes(size, [(eye, (0,) * size, "seen") for eye in eyes])


def meeting(size, eyes):
    """Return a place that all eyes see, None if there is none."""
    return find_shift(common_sight(size, eyes))


def barring_eyes(size, eyes):
    """Return the least prime that keeps eyes from seeing one place together, and which they are.

    The answer is None if there is a place that all of them see.
    """
    prime = barring(common_sight(size, eyes))
    if prime is None:
        return None
    first = {}
    for at, eye in enumerate(eyes):
        first.setdefault(remainders(eye, prime), at)
    return prime, list(first.values())
