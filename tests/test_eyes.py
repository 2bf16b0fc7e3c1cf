import random
import unittest
from itertools import combinations
from math import gcd

from seenposts.errors import Conflict, InvalidPlace, InvalidSize, InvalidWord
from seenposts.eyes import barring_eyes, for_eyes, in_sight, meeting, seen_by
from seenposts.pictures import Picture
from seenposts.shows import shows
from tests.helping import PRIMES, added, answers, around, bars, box, exactly, only_by, refuses
from tests.helping import remain

FAR = 10 ** 60 - 1
FOUR = [(0, 0), (1, 0), (0, 1), (1, 1)]
EIGHT = box((0, 0, 0), (1, 1, 1))
SIZES = [0, 1, 4, -2, 6, 10 ** 61, -10 ** 61]


def sees(eye, place):
    return gcd(*[a - b for a, b in zip(place, eye, strict=True)]) == 1


def far_eyes(many, size, pick, primes=(2, 3, 5, 7)):
    """Eyes of many digits that lack remainders by each of some primes."""
    found = []
    while len(found) < many:
        eye = tuple(pick.randrange(-FAR, FAR + 1) for _ in range(size))
        if all(any(n % p for n in eye) for p in primes):
            found.append(eye)
    return found


class ForEyes(unittest.TestCase):
    def check(self, size, entries, seen, hidden):
        before = list(entries)
        for picture in (for_eyes(size, entries), for_eyes(entries=entries, size=size)):
            exactly(self, (picture.size, picture.seen, picture.hidden), (size, seen, hidden))
        exactly(self, entries, before)

    def test_differences(self):
        self.check(2, [((0, 0), (3, 1), "seen"), ((1, 0), (3, 1), "hidden"),
                       ((1, 1), (4, 2), "seen")], [(3, 1)], [(2, 1)])
        self.check(3, [((1, 2, 3), (0, 0, 0), "hidden"), ((0, 0, 0), (1, 2, 3), "seen")],
                   [(1, 2, 3)], [(-1, -2, -3)])
        self.check(2, [((5, 5), (5, 5), "seen"), ((5, 5), (5, 4), "seen")], [(0, -1), (0, 0)], [])

    def test_without_entries(self):
        for size in (2, 3):
            self.check(size, [], [], [])

    def test_eyes_of_many_digits(self):
        self.check(2, [((FAR, -FAR), (FAR - 40, 40 - FAR), "seen"),
                       ((FAR - 40, 0), (FAR, 0), "hidden")], [(-40, 40)], [(40, 0)])

    def test_the_same_difference_with_the_same_word(self):
        self.check(2, [((0, 0), (1, 2), "seen"), ((9, 9), (10, 11), "seen"),
                       ((0, 0), (1, 2), "seen")], [(1, 2)], [])
        self.check(2, [((0, 0), (1, 2), "hidden"), ((9, 9), (10, 11), "hidden")], [], [(1, 2)])

    def test_forty_entries(self):
        entries = [((n, n), (2 * n - 20, -n), "seen" if n % 2 else "hidden") for n in range(40)]
        self.check(2, entries, [(n - 20, -2 * n) for n in range(1, 40, 2)],
                   [(n - 20, -2 * n) for n in range(0, 40, 2)])

    def test_it_is_shown_where_the_eyes_see_so(self):
        pick = random.Random(6)
        for size in (2, 3):
            for _ in range(60):
                entries = [(tuple(pick.randrange(-9, 10) for _ in range(size)),
                            tuple(pick.randrange(-9, 10) for _ in range(size)),
                            pick.choice(["seen", "hidden"])) for _ in range(2)]
                picture = for_eyes(size, entries)
                for shift in around((0,) * size, 2):
                    told = all(sees(eye, added(place, shift)) == (word == "seen")
                               for eye, place, word in entries)
                    exactly(self, shows(picture, shift), told)

    def test_wrong_sizes(self):
        for size in SIZES:
            for entries in [[], [((1,), (2, 2), "x")], [((0, 0), (1, 1), "seen")]]:
                refuses(self, InvalidSize, size, for_eyes, size=size, entries=entries)

    def test_wrong_entries_in_their_order(self):
        good, other = ((0, 0), (1, 1), "seen"), ((1, 1), (2, 2), "hidden")
        for bad, kind, value in [
                (((1,), (2,), "x"), InvalidPlace, (1,)), (((), (2, 2), "seen"), InvalidPlace, ()),
                (((1, 2, 3), (2, 2), "seen"), InvalidPlace, (1, 2, 3)),
                (((1, 2), (2, 2, 2), "x"), InvalidPlace, (2, 2, 2)),
                (((1, 2), (), "seen"), InvalidPlace, ()),
                (((1, 2), (2, 2), "x"), InvalidWord, "x"), (((0, 0), (1, 1), ""), InvalidWord, ""),
                (((0, 0), (1, 1), "Seen"), InvalidWord, "Seen"),
                (((0, 0), (1, 1), "open"), InvalidWord, "open"),
                (((0, 0), (1, 1), "seen "), InvalidWord, "seen "), (other, Conflict, (1, 1)),
                (((9, 9), (10, 10), "hidden"), Conflict, (1, 1))]:
            refuses(self, kind, value, for_eyes, size=2, entries=[good, bad])
            refuses(self, kind, value, for_eyes, size=2, entries=[good, bad, ((), (), "")])
        refuses(self, InvalidPlace, (0, 0), for_eyes, size=3, entries=[good])
        refuses(self, InvalidPlace, (0, 0), for_eyes, size=3, entries=[((1, 1, 1), (0, 0), "x")])

    def test_conflicts_in_both_orders(self):
        one, other = ((3, 0), (5, -1), "hidden"), ((0, 0), (2, -1), "seen")
        refuses(self, Conflict, (2, -1), for_eyes, size=2, entries=[one, other])
        refuses(self, Conflict, (2, -1), for_eyes, size=2, entries=[other, one])
        refuses(self, Conflict, (2, -1), for_eyes, size=2,
                entries=[one, ((0, 0), (0, 0), "seen"), one, other, ((), (), "")])


class SeenBy(unittest.TestCase):
    def test_some_eyes(self):
        eyes = [(0, 0), (1, 0), (1, 1), (3, 1), (0, 0), (3, 2)]
        answers(self, [0, 1, 4, 5], seen_by, eyes=eyes, place=(3, 1))
        answers(self, [1, 2, 3, 5], seen_by, eyes=eyes, place=(0, 0))
        answers(self, [], seen_by, eyes=[(3, 1), (1, 1)], place=(3, 1))
        answers(self, [0, 2], seen_by, eyes=[(0, 0, 1), (2, 2, 2), (1, 0, 0)], place=(0, 0, 0))

    def test_without_eyes(self):
        answers(self, [], seen_by, eyes=[], place=(1, 2))
        answers(self, [], seen_by, eyes=[], place=(1, 2, 3))

    def test_against_the_greatest_common_divisor(self):
        pick = random.Random(7)
        for size, far in [(2, 9), (3, 9), (2, FAR), (3, FAR)]:
            eyes = [tuple(pick.randrange(-far, far + 1) for _ in range(size)) for _ in range(30)]
            for _ in range(20):
                place = tuple(pick.randrange(-far, far + 1) for _ in range(size))
                expected = [at for at, eye in enumerate(eyes) if sees(eye, place)]
                answers(self, expected, seen_by, eyes=eyes, place=place)

    def test_the_list_is_new(self):
        seen_by([(0, 0)], (1, 1)).clear()
        answers(self, [0], seen_by, eyes=[(0, 0)], place=(1, 1))

    def test_wrong_places_and_eyes(self):
        for place in [(), (1,), (0, 0, 0, 0), (0,) * 6]:
            for eyes in [[], [(0, 0)], [place], [()]]:
                refuses(self, InvalidPlace, place, seen_by, eyes=eyes, place=place)
        for eyes, eye in [([(0, 0), (1,), ()], (1,)), ([()], ()), ([(0, 0, 0), (1,)], (0, 0, 0)),
                          ([(0, 0), (1, 1), (0,) * 6], (0,) * 6)]:
            refuses(self, InvalidPlace, eye, seen_by, eyes=eyes, place=(1, 2))
        refuses(self, InvalidPlace, (0, 0), seen_by, eyes=[(0, 0)], place=(1, 2, 3))


class InSight(unittest.TestCase):
    def check(self, eyes, low, high):
        """Check a box against what each eye sees, place by place."""
        expected = [place for place in box(low, high) if all(sees(eye, place) for eye in eyes)]
        answers(self, expected, in_sight, eyes=eyes, low=low, high=high)
        exactly(self, expected, [place for place in box(low, high)
                                 if seen_by(eyes, place) == list(range(len(eyes)))])
        return expected

    def test_some_boxes(self):
        eyes = [(0, 0), (1, 0), (1, 1)]
        exactly(self, self.check(eyes, (0, 0), (2, 2)), [(0, 1), (2, 1)])
        self.check(eyes, (-9, -9), (9, 9))
        self.check([(2, -3)], (-9, -9), (9, 9))
        self.check([(0, 0, 0), (1, 2, 3), (1, 2, 3)], (-3, -2, -1), (3, 4, 5))
        exactly(self, self.check(FOUR, (-20, -20), (20, 20)), [])

    def test_without_eyes_all_places(self):
        answers(self, box((-1, -2), (2, 3)), in_sight, eyes=[], low=(-1, -2), high=(2, 3))
        answers(self, box((0, 0, 0), (1, 1, 1)), in_sight, eyes=[], low=(0, 0, 0), high=(1, 1, 1))

    def test_empty_boxes(self):
        for eyes in ([], [(0, 0)], FOUR):
            for low, high in [((1, 1), (0, 1)), ((1, 1), (1, 0)), ((FAR, 0), (-FAR, 2999)),
                              ((0, 0), (3000, -1)), ((0, 0), (FAR, -1))]:
                answers(self, [], in_sight, eyes=eyes, low=low, high=high)
        answers(self, [], in_sight, eyes=[], low=(0, 0, 5), high=(3000, 3000, 4))

    def test_three_thousand_places_and_thirty_eyes(self):
        eyes = [(2 * n, 1 - 2 * n * n) for n in range(30)]
        self.check(eyes, (-27, -27), (27, 26))
        pick = random.Random(9)
        self.check(far_eyes(30, 2, pick), (FAR - 54, 5), (FAR, 58))
        self.check(far_eyes(30, 3, pick), (-7, FAR - 14, -6), (7, FAR, 6))

    def test_the_list_is_new(self):
        in_sight([], (0, 0), (1, 1)).clear()
        answers(self, FOUR[:1] + FOUR[2:3] + FOUR[1:2] + FOUR[3:], in_sight, eyes=[], low=(0, 0),
                high=(1, 1))

    def test_wrong_places_and_eyes(self):
        for eyes in ([], [(0, 0)], [()]):
            for low, high, wrong_one in [
                    ((), (), ()), ((1,), (2, 2), (1,)), ((1,) * 4, (2, 2), (1,) * 4),
                    ((1, 1), (2,), (2,)), ((9, 9), (2, 2, 2), (2, 2, 2)), ((1, 1), (), ()),
                    ((1, 1, 1), (2, 2), (2, 2)), ((1,) * 6, (), (1,) * 6)]:
                refuses(self, InvalidPlace, wrong_one, in_sight, eyes=eyes, low=low, high=high)
        for eyes, eye in [([(0, 0), (1,), ()], (1,)), ([()], ()), ([(0, 0, 0)], (0, 0, 0))]:
            refuses(self, InvalidPlace, eye, in_sight, eyes=eyes, low=(0, 0), high=(3, 3))
            refuses(self, InvalidPlace, eye, in_sight, eyes=eyes, low=(0, 0), high=(-3, 3))


class Meeting(unittest.TestCase):
    def met(self, size, eyes):
        """Check that all eyes see the place, and that no prime bars them."""
        before = list(eyes)
        place = meeting(size, eyes)
        exactly(self, (type(place), len(place), [type(n) for n in place]),
                (tuple, size, [int] * size))
        exactly(self, [sees(eye, place) for eye in eyes], [True] * len(eyes))
        exactly(self, seen_by(eyes, place), list(range(len(eyes))))
        answers(self, place, meeting, size=size, eyes=eyes)
        answers(self, None, barring_eyes, size=size, eyes=eyes)
        exactly(self, eyes, before)

    def barred(self, size, eyes, prime):
        """Check that no place is found, and the eyes that prove it."""
        first = {}
        for at, eye in enumerate(eyes):
            first.setdefault(remain(eye, prime), at)
        answers(self, None, meeting, size=size, eyes=eyes)
        answers(self, (prime, sorted(first.values())), barring_eyes, size=size, eyes=eyes)
        return barring_eyes(size, eyes)

    def test_few_eyes(self):
        self.met(2, [(0, 0), (1, 0), (1, 1)])
        self.met(2, [(5, -7)])
        self.met(3, [(5, -7, 2), (0, 0, 0)])
        self.met(3, EIGHT[1:])

    def test_without_eyes(self):
        for size in (2, 3):
            self.met(size, [])

    def test_equal_eyes(self):
        self.met(2, [(0, 0)] * 30)
        self.met(2, [(0, 0), (1, 0), (0, 0), (1, 1), (1, 0)] * 6)
        self.met(3, [(FAR, 0, 1), (FAR, 0, 1)])
        exactly(self, self.barred(2, [(0, 0), (0, 0), (1, 0), (1, 1), (0, 0), (0, 1), (1, 1)], 2),
                (2, [0, 2, 3, 5]))

    def test_eyes_that_bar(self):
        exactly(self, self.barred(2, [(0, 0), (1, 0), (1, 1), (2, 2), (0, 1)], 2),
                (2, [0, 1, 2, 4]))
        exactly(self, self.barred(2, FOUR, 2), (2, [0, 1, 2, 3]))
        exactly(self, self.barred(3, EIGHT[::-1], 2), (2, [0, 1, 2, 3, 4, 5, 6, 7]))
        exactly(self, self.barred(2, [(-3, 2), (4, 4), (7, -7), (-2, 9), (1, 1)], 2),
                (2, [0, 1, 2, 3]))

    def test_only_this_prime_bars(self):
        for size, primes in PRIMES.items():
            for prime in primes:
                eyes = only_by(prime, size)
                if len(eyes) <= 30:
                    self.barred(size, eyes, prime)
                    self.barred(size, eyes[::-1] + eyes[:2], prime)
                    for at in range(len(eyes)):
                        self.met(size, eyes[:at] + eyes[at + 1:])

    def test_the_least_of_several_primes(self):
        self.barred(2, box((0, 0), (4, 5)), 2)
        eyes = only_by(3, 2)
        self.barred(2, eyes + FOUR, 2)
        self.barred(3, box((0, 0, 0), (2, 2, 2)), 2)
        self.barred(2, [added(eye, (9, -9)) for eye in only_by(5, 2)] + [(9, -9)] * 5, 5)
        self.barred(2, only_by(3, 2) + only_by(5, 2)[:21], 3)

    def test_every_few_eyes_near_one_another(self):
        for many in range(6):
            for eyes in combinations(box((0, 0), (2, 2)), many):
                if bars(eyes, 2, 2):
                    self.barred(2, list(eyes), 2)
                else:
                    self.met(2, list(eyes))

    def test_thirty_eyes_anywhere(self):
        pick = random.Random(10)
        for size in (2, 3):
            for _ in range(12):
                self.met(size, far_eyes(30, size, pick))
            for far in (4, 20, 1000):
                eyes = [tuple(2 * pick.randrange(-far, far) + 1 if at == 0 else
                              pick.randrange(-far, far) for at in range(size)) for _ in range(30)]
                primes = [prime for prime in (2, 3, 5) if bars(eyes, prime, size)]
                if primes:
                    self.barred(size, eyes, primes[0])
                else:
                    self.met(size, eyes)

    def test_thirty_eyes_in_a_row(self):
        for start, step in [((0, 0), (0, 1)), ((0, 0), (1, 0)), ((7, -7), (3, 3)), ((0, 5), (30, 1)),
                            ((FAR - 40, -FAR), (1, 0)), ((-FAR, 0), (0, 10 ** 58)),
                            ((0, 0, 0), (0, 0, 1)), ((FAR - 100, 0, 3), (2, 3, 0)),
                            ((30030, 0), (30030, 1)), ((1, 1), (200560490130, 1))]:
            eyes = [tuple(a + n * b for a, b in zip(start, step)) for n in range(30)]
            self.met(len(start), eyes)

    def test_eyes_that_many_primes_do_not_tell_apart(self):
        number = 1
        for prime in range(2, 170):
            if all(prime % other for other in range(2, prime)) and number * prime < FAR // 30:
                number *= prime
        eyes = [(number * n, n) for n in range(30)]
        self.met(2, eyes)
        self.met(2, [(b, a) for a, b in eyes])
        self.met(3, [(number * n, n, -number) for n in range(30)])
        self.met(2, [(number * (n // 6), n % 6 * number) for n in range(30)])

    def test_wrong_sizes(self):
        for call in (meeting, barring_eyes):
            for size in SIZES:
                for eyes in [[], [()], [(0, 0), (1, 1)], [(0,) * 4]]:
                    refuses(self, InvalidSize, size, call, size=size, eyes=eyes)

    def test_wrong_eyes(self):
        for call in (meeting, barring_eyes):
            for size, eyes, eye in [
                    (2, [(0, 0), (1,), ()], (1,)), (2, [()], ()), (2, [(0, 0, 0), (0, 0)], (0, 0, 0)),
                    (3, [(0, 0)], (0, 0)), (3, [(0, 0, 0), (0,) * 6], (0,) * 6),
                    (2, FOUR + [(1, 1, 1)], (1, 1, 1))]:
                refuses(self, InvalidPlace, eye, call, size=size, eyes=eyes)

    def test_the_list_is_new(self):
        barring_eyes(2, FOUR)[1].clear()
        exactly(self, barring_eyes(2, FOUR), (2, [0, 1, 2, 3]))

    def test_it_is_where_the_picture_of_the_eyes_is_shown(self):
        for eyes in combinations(box((-1, 0), (1, 2)), 3):
            picture = Picture(2, [(-a, -b) for a, b in eyes], [])
            exactly(self, shows(picture, meeting(2, list(eyes))), True)


if __name__ == "__main__":
    unittest.main()
