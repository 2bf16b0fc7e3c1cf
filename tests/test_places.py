import unittest
from itertools import product

from seenposts.errors import InvalidNumber, InvalidPlace
from seenposts.places import between, first_post, is_seen, remainders
from tests.helping import exactly, wrong

BIG = 10 ** 59 + 7
MISSHAPEN = [(), (0,), (1,), (1, 2, 3, 4), (1, 1, 1, 1, 1), (2, 4, 6, 8, 10, 12)]


def small_places():
    """All places near the eye, of both sizes."""
    return list(product(range(-6, 7), repeat=2)) + list(product(range(-4, 5), repeat=3))


def posts_between(place):
    """Count the posts on the way by trying every smaller place; none for the eye's own."""
    most = max(abs(number) for number in place)
    found = 0
    for part in range(1, most):
        if all(number * part % most == 0 for number in place):
            found += 1
    return found


class Seen(unittest.TestCase):
    def test_small_places_by_going_through_the_posts_between(self):
        for place in small_places():
            expected = any(place) and posts_between(place) == 0
            exactly(self, is_seen(place), expected)
            exactly(self, between(place), posts_between(place))

    def test_the_place_of_the_eye_is_hidden(self):
        exactly(self, [is_seen((0, 0)), is_seen((0, 0, 0))], [False, False])
        exactly(self, [between((0, 0)), between((0, 0, 0))], [0, 0])

    def test_places_beside_the_eye_are_seen(self):
        for place in [(0, 1), (0, -1), (1, 0), (-1, 0), (0, 0, 1), (0, -1, 0), (-1, 0, 0)]:
            exactly(self, is_seen(place), True)
            exactly(self, between(place), 0)

    def test_in_space_all_three_coordinates_count(self):
        exactly(self, [is_seen((6, 10, 15)), is_seen((6, 10, 14)), is_seen((2, 4, 7))],
                [True, False, True])
        exactly(self, [between((6, 10, 14)), between((0, 0, -9)), between((2, 4, 7))], [1, 8, 0])

    def test_coordinates_of_sixty_digits(self):
        big = 10 ** 60 - 1
        exactly(self, [is_seen((big, big - 1)), is_seen((-big, 10 ** 59)), is_seen((big, -9)),
                       is_seen((big, 0, 1)), is_seen((0, big)), is_seen((big, big, big))],
                [True, True, False, True, False, False])
        exactly(self, [between((2 * BIG, 4 * BIG)), between((0, -big)), between((big, big, 1 - big)),
                       between((3 * BIG, -6 * BIG, 9 * BIG))],
                [2 * BIG - 1, big - 1, 0, 3 * BIG - 1])

    def test_by_name(self):
        exactly(self, [is_seen(place=(1, 2)), between(place=(3, 6)), first_post(place=(3, 6))],
                [True, 2, (1, 2)])

    def test_wrong_number_of_coordinates(self):
        for place in MISSHAPEN:
            for call in (is_seen, between, first_post):
                wrong(self, InvalidPlace, place, call, place)
                wrong(self, InvalidPlace, place, call, place=place)


class FirstPost(unittest.TestCase):
    def test_it_is_seen_and_the_place_is_that_many_times_as_far(self):
        for place in small_places():
            found = first_post(place)
            self.assertIs(type(found), tuple)
            if any(place):
                self.assertTrue(is_seen(found))
                steps = between(place) + 1
                self.assertEqual(tuple(steps * number for number in found), place)
            else:
                exactly(self, found, place)

    def test_signs_stay(self):
        exactly(self, [first_post((6, -9)), first_post((-6, 9)), first_post((-6, -9)),
                       first_post((0, -5)), first_post((-4, 0, -6))],
                [(2, -3), (-2, 3), (-2, -3), (0, -1), (-2, 0, -3)])

    def test_the_place_of_the_eye(self):
        exactly(self, [first_post((0, 0)), first_post((0, 0, 0))], [(0, 0), (0, 0, 0)])

    def test_coordinates_of_sixty_digits(self):
        exactly(self, [first_post((2 * BIG, -4 * BIG)), first_post((BIG, BIG + 1)),
                       first_post((0, 0, -BIG)), first_post((-9 * BIG, 6 * BIG, 0))],
                [(1, -2), (BIG, BIG + 1), (0, 0, -1), (-3, 2, 0)])


class Remainders(unittest.TestCase):
    def test_small_numbers(self):
        for divisor in range(2, 8):
            for place in product(range(-9, 10), repeat=2):
                found = remainders(place, divisor)
                self.assertIs(type(found), tuple)
                for number, left in zip(place, found):
                    self.assertIn(left, range(divisor))
                    self.assertEqual((number - left) % divisor, 0)

    def test_space_and_divisors_that_are_no_primes(self):
        exactly(self, [remainders((-1, 0, 13), 6), remainders((0, 0, 0), 2), remainders((-1, 7), 3)],
                [(5, 0, 1), (0, 0, 0), (2, 1)])

    def test_many_digits(self):
        exactly(self, [remainders((10 ** 60 - 1, -10 ** 59), 7),
                       remainders((-1, 5), 10 ** 61), remainders((BIG, -BIG, 3), BIG)],
                [((10 ** 60 - 1) % 7, -10 ** 59 % 7), (10 ** 61 - 1, 5), (0, 0, 3)])

    def test_by_name(self):
        exactly(self, remainders(divisor=4, place=(-1, 6)), (3, 2))
        exactly(self, remainders((-1, 6), divisor=4), (3, 2))

    def test_wrong_divisors(self):
        for divisor in [1, 0, -1, -2, -7, -10 ** 61]:
            wrong(self, InvalidNumber, divisor, remainders, (1, 2), divisor)
            wrong(self, InvalidNumber, divisor, remainders, place=(1, 2, 3), divisor=divisor)

    def test_the_least_divisor_is_taken(self):
        exactly(self, remainders((3, 4), 2), (1, 0))

    def test_wrong_places_come_before_wrong_divisors(self):
        for place in MISSHAPEN:
            for divisor in [5, 2, 1, 0, -3]:
                wrong(self, InvalidPlace, place, remainders, place, divisor)


if __name__ == "__main__":
    unittest.main()
