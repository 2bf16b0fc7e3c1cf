import random
import unittest
from itertools import combinations

from seenposts.pictures import Picture
from seenposts.shows import find_shift, shows
from tests.helping import answers, around, bars, box, exactly, shown, small_pictures

BIG = 10 ** 40 - 1
FAR = 10 ** 60 - 1


def open_to(primes, places):
    """The places that leave the remainders 0 by each of some primes to nobody."""
    return [place for place in places if all(any(n % p for n in place) for p in primes)]


class Finding(unittest.TestCase):
    def found(self, picture):
        """Check that a shift is found at which the picture is shown, and return it."""
        before = (picture.size, picture.seen, picture.hidden)
        shift = find_shift(picture)
        self.assertIs(type(shift), tuple)
        self.assertTrue(all(type(number) is int for number in shift))
        self.assertEqual(len(shift), picture.size)
        self.assertTrue(shown(picture, shift), (before, shift))
        self.assertIs(shows(picture, shift), True)
        exactly(self, (picture.size, picture.seen, picture.hidden), before)
        exactly(self, find_shift(picture=picture), shift)
        return shift

    def test_some_small_pictures(self):
        self.found(Picture(2, [(0, 0), (0, 1), (1, 0)], [(1, 1)]))
        self.found(Picture(2, [(0, 0)], []))
        self.found(Picture(2, [], [(0, 0)]))
        self.found(Picture(3, [(0, 0, 0)], [(1, 1, 1)]))

    def test_not_possible(self):
        for size in (2, 3):
            corners = box((0,) * size, (1,) * size)
            answers(self, None, find_shift, picture=Picture(size, corners, []))
            answers(self, None, find_shift, picture=Picture(size, corners, [(2,) * size]))
            picture = Picture(size, open_to([2], box((-3,) * size, (5,) * size))[:60], [])
            exactly(self, find_shift(picture) is None, bars(picture.seen, 3, size))
        odd = [(2 * a + 1, b) for a in range(3) for b in range(3)]
        answers(self, None, find_shift, picture=Picture(2, odd, []))
        answers(self, None, find_shift, picture=Picture(2, odd, [(0, 0), (2, 2)]))

    def test_without_places(self):
        for size in (2, 3):
            self.found(Picture(size, [], []))

    def test_every_picture_of_six_places(self):
        for low, high in [((0, 0), (1, 2)), ((-1, 4), (0, 6))]:
            for seen, hidden in small_pictures(low, high):
                picture = Picture(2, seen, hidden)
                if bars(seen, 2, 2):
                    answers(self, None, find_shift, picture=picture)
                else:
                    self.found(picture)

    def test_all_seen_places_of_three_rows(self):
        for size, places in [(2, box((0, 0), (2, 2))), (3, box((0, 0, 0), (1, 1, 2)))]:
            for many in range(len(places) + 1):
                for seen in list(combinations(places, many))[::3]:
                    rest = [place for place in places if place not in seen]
                    if bars(seen, 2, size) or bars(seen, 3, size):
                        answers(self, None, find_shift, picture=Picture(size, list(seen), rest))
                    else:
                        self.found(Picture(size, list(seen), rest))

    def test_many_places_anywhere(self):
        pick = random.Random(3)
        for size in (2, 3):
            for primes in [(2, 3, 5, 7), (2, 3), (7,)]:
                for many in (1, 3, 8, 30, 60):
                    places = pick.sample(around((0,) * 2, 40), 400) if size == 2 else [
                        tuple(pick.randrange(-40, 41) for _ in range(3)) for _ in range(400)]
                    seen = open_to(primes, places)[:many]
                    hidden = [place for place in sorted(set(places)) if place not in seen][:40]
                    picture = Picture(size, sorted(set(seen)), hidden)
                    if any(bars(seen, p, size) for p in (2, 3, 5, 7)):
                        answers(self, None, find_shift, picture=picture)
                    else:
                        self.found(picture)

    def test_seen_places_packed_closely(self):
        for size, primes, high in [(2, (2, 3, 5, 7), 12), (3, (2, 3), 5)]:
            places = box((0,) * size, (high,) * size)
            seen = open_to(primes, places)[:60]
            hidden = [place for place in places if place not in seen][:40]
            self.found(Picture(size, seen, hidden))
            self.found(Picture(size, seen[:30], hidden))

    def test_all_seen_places_in_one_row_or_column(self):
        for seen in [[(0, n) for n in range(-30, 30)], [(n, 0) for n in range(-30, 30)],
                     [(n, n) for n in range(-30, 30)]]:
            hidden = [(1, n) for n in range(-20, 20) if (1, n) not in seen]
            self.found(Picture(2, seen, hidden))
        seen = [(0, 0, n) for n in range(-30, 30)]
        self.found(Picture(3, seen, [(0, 1, n) for n in range(40)]))
        self.found(Picture(3, [(n, 5, 5) for n in range(-30, 30)], [(n, 5, 6) for n in range(40)]))

    def test_seen_places_with_all_last_coordinates_by_a_prime(self):
        # A shift that leads their first coordinates to multiples of the prime can never do.
        for prime in (2, 3, 5, 7, 11, 29, 59):
            seen = [(0, n) for n in range(prime)]
            for first in range(1, 2 * prime + 3):
                self.found(Picture(2, seen, [(first, 0)]))
                self.found(Picture(2, seen, [(first, 1), (0, -1), (first + prime, 0)]))
        for first in range(1, 9):
            self.found(Picture(3, [(0, 0, n) for n in range(3)], [(first, 0, 1), (2, 3, first)]))

    def test_hidden_places_alone(self):
        self.found(Picture(2, [], box((0, 0), (4, 7))))
        self.found(Picture(3, [], box((-1, -1, -1), (1, 1, 2))))
        self.found(Picture(2, [], [(40, -40)]))

    def test_hidden_places_between_seen_ones(self):
        for far in (1, 2, 6, 30, 35):
            seen = [(0, 0), (far, 0), (0, 2 * far), (-far, 2 * far), (-far, 0), (0, -2 * far)]
            hidden = [(n, n) for n in range(-20, 21) if (n, n) not in seen][:40]
            self.found(Picture(2, seen, hidden))

    def test_hidden_places_that_differ_by_many_primes_from_seen_ones(self):
        number = 1
        for prime in (2, 3, 5, 7, 11, 13, 17, 19, 23, 29, 31, 37, 41, 43, 47, 53):
            number *= prime
        self.found(Picture(2, [(0, 0), (1, 0)], [(number, 0), (1, -number), (0, 1)]))
        self.found(Picture(2, [(number, FAR)], [(0, FAR), (number, -FAR)]))

    def test_coordinates_of_many_digits(self):
        seen = open_to((2, 3, 5, 7), [(BIG - k, BIG - 3 * k * k) for k in range(400)])[:60]
        hidden = [(-BIG + 7 * k, k) for k in range(40)]
        self.found(Picture(2, seen, hidden))

    def test_a_shift_may_be_added_to_the_places(self):
        picture = Picture(2, [(0, 0), (3, 1), (4, -2)], [(1, 1), (0, 1)])
        for shift in [(5, -7), (FAR, 1), (-FAR, -FAR)]:
            self.found(picture.shifted(shift))


if __name__ == "__main__":
    unittest.main()
