"""What several test files need."""

import copy
from itertools import product
from math import gcd

# For each size the primes that may bar a picture within the limits.
PRIMES = {2: (2, 3, 5, 7), 3: (2, 3)}


def wrong(case, kind, value, call, *args, **named):
    """Check that a call raises exactly this error with this value, and changes no argument."""
    before = copy.deepcopy((args, named))
    with case.assertRaises(kind) as caught:
        call(*args, **named)
    case.assertIs(caught.exception.__class__, kind)
    case.assertEqual(caught.exception.value, value)
    case.assertEqual(repr(caught.exception.value), repr(value))
    case.assertEqual((args, named), before)
    return caught.exception


def exactly(case, found, expected):
    """Check a value and its kind, so that 1 does not pass for True."""
    case.assertEqual(repr(found), repr(expected))


def answers(case, expected, call, **named):
    """Check an answer, by position and by name in any order, and that no argument is changed."""
    before = copy.deepcopy(named)
    exactly(case, call(*named.values()), expected)
    exactly(case, call(**dict(reversed(list(named.items())))), expected)
    case.assertEqual(named, before)


def refuses(case, kind, value, call, **named):
    """Check an error, by position and by name in any order."""
    wrong(case, kind, value, call, *named.values())
    wrong(case, kind, value, call, **dict(reversed(list(named.items()))))


def added(place, shift):
    return tuple(a + b for a, b in zip(place, shift, strict=True))


def shown(picture, shift):
    """Whether a picture is shown at a shift, straight by the words of the document."""
    return (all(gcd(*added(place, shift)) == 1 for place in picture.seen)
            and not any(gcd(*added(place, shift)) == 1 for place in picture.hidden))


def box(low, high):
    """The places of a box, ascending."""
    return list(product(*[range(a, b + 1) for a, b in zip(low, high, strict=True)]))


def around(centre, far):
    """The shifts of a window around one."""
    return box(tuple(n - far for n in centre), tuple(n + far for n in centre))


def remain(place, prime):
    return tuple(n % prime for n in place)


def bars(places, prime, size):
    """Whether places have all remainders by a prime."""
    return {remain(place, prime) for place in places} == set(product(range(prime), repeat=size))


def small_pictures(low, high):
    """All pictures that tell some places of a box."""
    places = box(low, high)
    for words in product("sh-", repeat=len(places)):
        yield [[place for place, word in zip(places, words) if word == kind] for kind in "sh"]


def only_by(prime, size):
    """Places with all remainders by one prime, each once, that lack several by each other one."""
    others = [other for other in PRIMES[size] if other != prime]
    found = []
    for told in box((0,) * size, (prime - 1,) * size):
        near = [added(told, tuple(prime * n for n in move)) for move in around((0,) * size, 3)]
        found.append([place for place in near if all(place[0] % p for p in others)][0])
    return found
