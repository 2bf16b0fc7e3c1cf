import random
import unittest
from fractions import Fraction
from itertools import combinations

from seenposts.errors import InvalidNumber
from seenposts.pictures import Picture
from seenposts.thick import class_count, is_thicker, thickness
from tests.helping import answers, around, box, exactly, only_by, refuses, remain, shown

ONE = Picture(2, [(0, 0)], [])
TWO = Picture(2, [(0, 0), (0, 1)], [])
SQUARE = Picture(2, [(0, 0), (0, 1), (1, 0), (1, 1)], [])
PRIMES = [n for n in range(2, 61) if all(n % k for k in range(2, n))]


def list_bounds(places, size, limit):
    """The bounds of the thickness of a list of places, straight by the words of the document."""
    above = Fraction(1)
    for prime in PRIMES:
        if prime <= limit:
            count = len({remain(place, prime) for place in places})
            above *= 1 - Fraction(count, prime ** size)
    bottom = limit if size == 2 else 2 * limit * limit
    below = above * (1 - Fraction(len(places), bottom))
    return max(below, Fraction(0)), above


def bounds(picture, limit):
    """The bounds of the thickness of a picture, straight by the words of the document."""
    below = above = Fraction(0)
    for many in range(len(picture.hidden) + 1):
        for some in combinations(picture.hidden, many):
            least, greatest = list_bounds(picture.seen + list(some), picture.size, limit)
            if many % 2 == 0:
                below, above = below + least, above + greatest
            else:
                below, above = below - greatest, above - least
    return max(below, Fraction(0)), min(above, Fraction(1))


def pairs(fractions):
    return tuple((one.numerator, one.denominator) for one in fractions)


def any_picture(pick, size, seen, hidden):
    places = []
    while len(places) < seen + hidden:
        place = tuple(pick.randrange(-40, 41) for _ in range(size))
        if place not in places:
            places.append(place)
    return Picture(size, places[:seen], places[seen:])


class Thickness(unittest.TestCase):
    def test_one_place(self):
        for picture, limit, expected in [
                (ONE, 2, ((3, 8), (3, 4))), (ONE, 3, ((4, 9), (2, 3))),
                (ONE, 4, ((1, 2), (2, 3))), (ONE, 5, ((64, 125), (16, 25))),
                (Picture(2, [], [(5, 5)]), 3, ((1, 3), (5, 9))),
                (Picture(2, [], [(5, 5)]), 2, ((1, 4), (5, 8))),
                (Picture(3, [(0, 0, 0)], []), 2, ((49, 64), (7, 8))),
                (Picture(3, [], [(9, 0, 0)]), 2, ((1, 8), (15, 64)))]:
            answers(self, expected, thickness, picture=picture, limit=limit)

    def test_two_and_three_places(self):
        for picture, limit, expected in [
                (TWO, 2, ((0, 1), (1, 2))), (TWO, 3, ((7, 54), (7, 18))),
                (Picture(2, [(0, 0), (2, 2)], []), 2, ((0, 1), (3, 4))),
                (Picture(2, [(0, 0), (2, 2), (4, 0)], []), 2, ((0, 1), (3, 4))),
                (Picture(2, [(0, 0)], [(0, 1)]), 3, ((1, 18), (29, 54))),
                (Picture(2, [], [(0, 0), (0, 1)]), 3, ((0, 1), (1, 2)))]:
            exactly(self, pairs(bounds(picture, limit)), expected)
            answers(self, expected, thickness, picture=picture, limit=limit)

    def test_without_places_every_shift_counts(self):
        for size in (2, 3):
            for limit in (2, 7, 60):
                answers(self, ((1, 1), (1, 1)), thickness, picture=Picture(size, [], []),
                        limit=limit)

    def test_barred_pictures(self):
        for limit in (2, 3, 60):
            answers(self, ((0, 1), (0, 1)), thickness, picture=SQUARE, limit=limit)
        hidden = Picture(2, SQUARE.seen, [(5, 5), (2, 7)])
        answers(self, ((0, 1), (0, 1)), thickness, picture=hidden, limit=10)
        answers(self, ((0, 1), (0, 1)), thickness, picture=Picture(3, only_by(3, 3), [(0, 0, 0)]),
                limit=3)
        found = thickness(Picture(2, only_by(3, 2), []), 2)
        exactly(self, found, ((0, 1), (1, 2)))

    def test_a_forced_place_changes_nothing(self):
        three = Picture(2, [(0, 0), (0, 1), (1, 0)], [])
        told = Picture(2, three.seen, [(1, 1)])
        for limit in (2, 5, 60):
            exactly(self, thickness(told, limit), thickness(three, limit))

    def test_a_negative_bound_from_below_counts_as_nothing(self):
        # With the last factor below 0 a hidden place more must not raise the bound from above.
        seen = [(2 * n, 2 * n * n) for n in range(30)]
        for hidden in [[], [(1, 1)], [(1, 1), (3, 5)], [(1, 1), (3, 5), (-7, 2)]]:
            for limit in (2, 29, 30, 31, 32, 33, 34):
                picture = Picture(2, seen, hidden)
                answers(self, pairs(bounds(picture, limit)), thickness, picture=picture,
                        limit=limit)

    def test_many_pictures_and_limits(self):
        pick = random.Random(6)
        cut = 0
        for size in (2, 3):
            for limit in list(range(2, 20)) + [29, 30, 31, 59, 60]:
                for hidden in range(0, 6):
                    picture = any_picture(pick, size, pick.randrange(0, 7), hidden)
                    expected = pairs(bounds(picture, limit))
                    answers(self, expected, thickness, picture=picture, limit=limit)
                    cut += expected[1] == (1, 1)
        self.assertGreater(cut, 5)

    def test_the_greatest_pictures(self):
        pick = random.Random(7)
        for size in (2, 3):
            for limit in (2, 59, 60):
                picture = any_picture(pick, size, 30, 6)
                exactly(self, thickness(picture, limit), pairs(bounds(picture, limit)))
            rows = Picture(size, [(1, 2, n)[3 - size:] for n in range(-15, 15)],
                           [(2, 1, n)[3 - size:] for n in range(6)])
            exactly(self, thickness(rows, 60), pairs(bounds(rows, 60)))

    def test_the_bounds_stand_around_what_is_counted(self):
        for size, far in [(2, 40), (3, 12)]:
            window = around((0,) * size, far)
            pick = random.Random(8)
            for hidden in range(3):
                for seen in range(3):
                    picture = any_picture(pick, size, seen, hidden)
                    part = Fraction(sum([shown(picture, shift) for shift in window]), len(window))
                    below, above = [Fraction(*pair) for pair in thickness(picture, 60)]
                    self.assertLessEqual(below - Fraction(1, 50), part)
                    self.assertLessEqual(part, above + Fraction(1, 50))
                    self.assertLess(above - below, Fraction(1, 4))

    def test_a_greater_limit_brings_the_bounds_of_seen_places_nearer(self):
        for picture in (ONE, TWO, Picture(3, [(0, 0, 0), (1, 2, 3)], [])):
            found = [[Fraction(*pair) for pair in thickness(picture, prime)] for prime in PRIMES]
            for (below, above), (nearer, closer) in zip(found, found[1:]):
                self.assertTrue(below <= nearer < closer <= above)
        # The parts are 6 / pi ** 2 and 1 / 1.2020569...
        below, above = [Fraction(*pair) for pair in thickness(ONE, 60)]
        self.assertTrue(below < Fraction(607927, 10 ** 6) < above)
        below, above = [Fraction(*pair) for pair in thickness(Picture(3, [(0, 0, 0)], []), 60)]
        self.assertTrue(below < Fraction(831907, 10 ** 6) < above)

    def test_shifts_and_matrices_keep_it(self):
        picture = Picture(2, [(0, 0), (3, 1), (1, -2)], [(1, 1), (0, 5)])
        for limit in (2, 7, 60):
            expected = thickness(picture, limit)
            exactly(self, thickness(picture.shifted((7, -9)), limit), expected)
            exactly(self, thickness(picture.mapped([[2, 3], [1, 2]]), limit), expected)
            exactly(self, thickness(picture.mapped([[0, 1], [1, 0]]), limit), expected)

    def test_wrong_limits(self):
        for limit in [1, 0, -1, -60, -10 ** 61]:
            refuses(self, InvalidNumber, limit, thickness, picture=ONE, limit=limit)
            refuses(self, InvalidNumber, limit, thickness, picture=SQUARE, limit=limit)
            refuses(self, InvalidNumber, limit, is_thicker, one=ONE, other=ONE, limit=limit)
            refuses(self, InvalidNumber, limit, is_thicker, one=ONE,
                    other=Picture(3, [], []), limit=limit)


class ClassCount(unittest.TestCase):
    def test_different_remainders(self):
        for places, prime, expected in [
                ([(0, 0), (2, 4), (1, 1)], 2, 2), ([(0, 0), (2, 4), (1, 1)], 3, 3),
                ([], 2, 0), ([], 7, 0), ([(5, 5)], 5, 1), ([(-1, -2), (1, 0), (6, 5)], 7, 2),
                ([(-1, -2), (1, 0)], 2, 1), ([(0, 0, 0), (0, 0, 5), (5, 0, 0)], 5, 1),
                ([(0, 0, 0), (0, 0, 5), (5, 0, 0)], 7, 3), ([(1, 2), (2, 1)], 3, 2)]:
            answers(self, expected, class_count, places=places, prime=prime)

    def test_places_several_times(self):
        answers(self, 1, class_count, places=[(1, 2)] * 60, prime=7)
        answers(self, 2, class_count, places=[(1, 2), (0, 0), (1, 2), (0, 0), (3, 2)], prime=2)

    def test_sixty_places(self):
        pick = random.Random(9)
        for size in (2, 3):
            for prime in (2, 3, 5, 7):
                places = [tuple(pick.randrange(-10 ** 59, 10 ** 59) for _ in range(size))
                          for _ in range(60)]
                answers(self, len({remain(place, prime) for place in places}), class_count,
                        places=places, prime=prime)
        answers(self, 49, class_count, places=box((-3, 4), (3, 10)), prime=7)
        answers(self, 60, class_count, places=box((0, 0, 0), (2, 3, 4)), prime=7)

    def test_wrong_primes(self):
        for number in [0, 1, -1, -2, 4, 6, 8, 9, 11, 13, 49, 10 ** 61]:
            for places in [[], [(0, 0)], [(1, 2, 3)]]:
                refuses(self, InvalidNumber, number, class_count, places=places, prime=number)


class Thicker(unittest.TestCase):
    def test_surely_thicker(self):
        for one, other, limit, expected in [
                (ONE, TWO, 60, True), (TWO, ONE, 60, False), (ONE, ONE, 60, False),
                (ONE, TWO, 2, False), (Picture(3, [(0, 0, 0)], []), ONE, 60, True),
                (ONE, Picture(3, [(0, 0, 0)], []), 60, False),
                (Picture(3, [(0, 0, 0)], []), ONE, 3, True),
                (Picture(3, [(0, 0, 0)], []), ONE, 2, True),
                (ONE, SQUARE, 2, True), (SQUARE, SQUARE, 60, False),
                (SQUARE, ONE, 60, False), (Picture(3, [], []), Picture(2, [], []), 2, False),
                (Picture(2, [], []), ONE, 2, True),
                (ONE, Picture(2, [], [(0, 0)]), 60, True)]:
            answers(self, expected, is_thicker, one=one, other=other, limit=limit)

    def test_it_compares_the_bounds(self):
        pick = random.Random(10)
        found = {True: 0, False: 0}
        for _ in range(60):
            one = any_picture(pick, pick.randrange(2, 4), pick.randrange(4), pick.randrange(2))
            other = any_picture(pick, pick.randrange(2, 4), pick.randrange(4), pick.randrange(2))
            limit = pick.choice([2, 5, 20, 60])
            expected = bounds(one, limit)[0] > bounds(other, limit)[1]
            answers(self, expected, is_thicker, one=one, other=other, limit=limit)
            found[expected] += 1
        self.assertGreater(min(found.values()), 5)

    def test_equal_bounds_are_not_enough(self):
        all_shifts = Picture(2, [], [])
        answers(self, False, is_thicker, one=all_shifts, other=all_shifts, limit=2)
        # From below 3/8 by the one place, from above 3/8 by three rows of remainders.
        other = Picture(3, [(0, 0, 0), (0, 0, 1), (0, 1, 0), (0, 1, 1), (1, 0, 0)], [])
        exactly(self, thickness(other, 2)[1], (3, 8))
        answers(self, False, is_thicker, one=ONE, other=other, limit=2)


if __name__ == "__main__":
    unittest.main()
