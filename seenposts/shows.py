"""Where pictures are shown, and the primes that bar them."""

from seenposts.arithmetic import added, next_prime, places_in, primes_to
from seenposts.errors import InvalidNumber
from seenposts.places import check_place, is_seen, remainders


def shows(picture, shift):
    """Return True if a picture is shown at a shift, otherwise False."""
    check_place(shift, picture.size)
    for place in picture.seen:
        if not is_seen(added(place, shift)):
            return False
    for place in picture.hidden:
        if is_seen(added(place, shift)):
            return False
    return True


def many_remainders(prime, size):
    """Return how many tuples of remainders by a prime there are."""
    return prime * prime if size == 2 else prime * prime * prime


def all_remainders(prime, size):
    """Return all tuples of remainders by a prime, ascending."""
    return places_in((0,) * size, (prime - 1,) * size)


def first_places(places, prime):
    """Return the first place of a list with each remainders by a prime, in a new dict."""
    found = {}
    for place in places:
        found.setdefault(remainders(place, prime), place)
    return found


def small_primes(many, size):
    """Return the primes by which so many places could have all remainders, ascending."""
    return [prime for prime in primes_to(many) if many_remainders(prime, size) <= many]


def barring(picture):
    """Return the least prime that bars a picture, None if there is none."""
    seen = picture.seen
    for prime in small_primes(len(seen), picture.size):
        if len(first_places(seen, prime)) == many_remainders(prime, picture.size):
            return prime
    return None


def is_possible(picture):
    """Return True if a picture is shown at some shift, otherwise False."""
    return barring(picture) is None


def check_prime(prime, size):
    """Raise an error for an integer that is none of the primes to be asked about."""
    primes = (2, 3, 5, 7) if size == 2 else (2, 3)
    if prime not in primes:
        raise InvalidNumber(prime)


def classes(picture, prime):
    """Return all remainders by a prime, each with the first seen place that has them, or None."""
    check_prime(prime, picture.size)
    first = first_places(picture.seen, prime)
    return [(told, first.get(told)) for told in all_remainders(prime, picture.size)]


def judge_barring(picture, prime, told):
    """Return True if a list tells a seen place for each remainders by a prime, and no other."""
    check_prime(prime, picture.size)
    if len(told) != many_remainders(prime, picture.size):
        return False
    if any([picture.word(place) != "seen" for place in told]):
        return False
    return len(first_places(told, prime)) == len(told)


def digits(number, prime, size):
    """Return the last digits of an integer by the base of a prime, as a tuple of remainders."""
    found = ()
    for _ in range(size):
        found = (number % prime,) + found
        number //= prime
    return found


def first_free(taken, prime, size):
    """Return the first remainders by a prime that are no key of a dict, if one is missing there."""
    # One number more than there are keys is enough to meet remainders that are no key.
    told = [digits(number, prime, size) for number in range(len(taken) + 1)]
    return [some for some in told if some not in taken][0]


def free_of_one(places, taken, prime):
    """Return remainders of one of the places that are no key of a dict, None if there are none."""
    for place in places:
        told = remainders(place, prime)
        if told not in taken:
            return told
    return None


def led_to(start, step, rest, prime):
    """Return the first of start, start + step, .. that, with a rest added, a prime divides."""
    while (start + rest) % prime != 0:
        start += step
    return start


def composed(picture):
    """Return a shift and a step, composed from remainders by primes.

    At the shift, also with multiples of the step added to its coordinates, all hidden places of a
    possible picture are hidden, and no prime up to the number of the seen places hides one of them.
    """
    seen, waiting = picture.seen, picture.hidden
    shift, step, prime = (0,) * picture.size, 1, 2
    while prime <= len(seen) or len(waiting) > 0:
        taken = first_places(seen, prime)
        told = free_of_one(waiting, taken, prime)
        if told is None and prime <= len(seen):
            told = first_free(taken, prime, picture.size)
        if told is not None:
            shift = tuple([led_to(start, step, rest, prime) for start, rest in zip(shift, told)])
            step *= prime
            waiting = [place for place in waiting if remainders(place, prime) != told]
        prime = next_prime(prime)
    return shift, step


def find_shift(picture):
    """Return a shift at which a picture is shown, None if there is none."""
    if not is_possible(picture):
        return None
    shift, step = composed(picture)
    # With first coordinates above 0 for all seen places, only finitely many primes, each greater
    # than the number of these places, can still hide one: so some last coordinate avoids them all.
    least = 1 - min([place[0] for place in picture.seen], default=0)
    shift = (least + (shift[0] - least) % step,) + shift[1:]
    while not shows(picture, shift):
        shift = shift[:-1] + (shift[-1] + step,)
    return shift
