import random
import unittest

from seenposts.errors import Barred, InvalidPlace
from seenposts.forced import both_ways, forced_by, forced_in, status
from seenposts.pictures import Picture
from seenposts.shows import find_shift
from tests.helping import added, answers, around, bars, box, exactly, only_by, refuses, remain
from tests.helping import shown, small_pictures

THREE = Picture(2, [(0, 0), (0, 1), (1, 0)], [])
SQUARE = Picture(2, [(0, 0), (0, 1), (1, 0), (1, 1)], [(4, 4)])
SEVEN = Picture(3, box((0, 0, 0), (1, 1, 1))[1:], [])
CUBE = Picture(3, box((0, 0, 0), (1, 1, 1)), [])
FAR = 10 ** 60 - 1



def lacking_one(prime, told, hidden):
    """A picture whose seen places have, by one prime alone, all remainders but one tuple."""
    size = len(told)
    return Picture(size, [place for place in only_by(prime, size) if remain(place, prime) != told],
                   hidden)


LACKING = [(lacking_one(prime, told, hidden), prime, told) for prime, told, hidden in [
    (2, (1, 1), []), (2, (0, 1), [(-2, 3), (0, 1), (1, 1)]), (3, (0, 0), [(7, 7), (3, 3)]),
    (3, (2, 1), []), (5, (3, 4), [(3, 4)]), (5, (0, 0), []), (2, (0, 0, 0), []),
    (2, (1, 0, 1), [(0, 0, 0)]), (3, (2, 0, 1), [(-1, 0, 1)]), (3, (0, 0, 0), [])]]


class Forced(unittest.TestCase):
    def test_three_posts(self):
        for place, word, prime in [((1, 1), "hidden", 2), ((2, 2), "open", None),
                                   ((3, -1), "hidden", 2), ((0, 0), "seen", None),
                                   ((1, 0), "seen", None), ((-FAR, FAR), "hidden", 2),
                                   ((1 - FAR, FAR), "open", None)]:
            answers(self, word, status, picture=THREE, place=place)
            answers(self, prime, forced_by, picture=THREE, place=place)

    def test_places_that_stand_in_the_picture(self):
        picture = Picture(2, [(0, 0), (0, 1), (1, 0)], [(1, 1), (2, 2)])
        for place, word in [((0, 1), "seen"), ((1, 1), "hidden"), ((2, 2), "hidden"),
                            ((4, 2), "open"), ((5, 5), "hidden")]:
            answers(self, word, status, picture=picture, place=place)
        # The place (1, 1) is told, so that no prime is asked for, though one would force it.
        for place, prime in [((0, 1), None), ((1, 1), None), ((2, 2), None), ((5, 5), 2)]:
            answers(self, prime, forced_by, picture=picture, place=place)

    def test_one_tuple_of_remainders_is_lacking(self):
        for picture, prime, lacking in LACKING:
            for place in around((0,) * picture.size, 3) + around((FAR,) * picture.size, 2):
                forced = remain(place, prime) == lacking
                if place not in picture:
                    answers(self, "hidden" if forced else "open", status,
                            picture=picture, place=place)
                    answers(self, prime if forced else None, forced_by,
                            picture=picture, place=place)

    def test_two_tuples_of_remainders_are_lacking(self):
        for picture, prime, lacking in LACKING:
            for place in picture.seen[:5]:
                less = picture - Picture(picture.size, [place], [])
                for again in (place, lacking, added(place, (prime * 40,) * picture.size)):
                    if again not in less:
                        answers(self, "open", status, picture=less, place=again)
                        answers(self, None, forced_by, picture=less, place=again)

    def test_the_least_of_several_primes(self):
        seen = [place for place in around((0, 0), 6) if remain(place, 2) != (0, 0)
                and remain(place, 3) != (0, 0)]
        pick = random.Random(4)
        for _ in range(5):
            picture = Picture(2, pick.sample(seen, 30), [])
            exactly(self, [bars(picture.seen + [(0, 0)], p, 2) for p in (2, 3)], [True, True])
            for place, prime in [((0, 0), 2), ((3, 0), 3), ((2, 4), 2), ((-3, -9), 3),
                                 ((6 * FAR, 0), 2), ((1, 0), None), ((-1, 2), None)]:
                if place not in picture:
                    answers(self, prime, forced_by, picture=picture, place=place)
                    answers(self, "hidden" if prime else "open", status,
                            picture=picture, place=place)

    def test_without_seen_places_nothing_is_forced(self):
        for picture in [Picture(2, [], []), Picture(2, [], [(0, 0), (1, 1)])]:
            answers(self, "open", status, picture=picture, place=(2, 2))
            answers(self, None, forced_by, picture=picture, place=(2, 2))
            answers(self, [], forced_in, picture=picture, low=(-3, -3), high=(3, 3))
        answers(self, "hidden", status, picture=Picture(2, [], [(0, 0)]), place=(0, 0))

    def test_errors_in_their_order(self):
        for call in (status, forced_by, both_ways):
            for place in [(), (1,), (1, 2, 3), (0,) * 6]:
                refuses(self, InvalidPlace, place, call, picture=THREE, place=place)
                refuses(self, InvalidPlace, place, call, picture=SQUARE, place=place)
            for place in [(), (1, 2), (0,) * 4]:
                refuses(self, InvalidPlace, place, call, picture=CUBE, place=place)
            for place in [(0, 0), (4, 4), (5, 5), (7, 8)]:
                refuses(self, Barred, 2, call, picture=SQUARE, place=place)
            refuses(self, Barred, 2, call, picture=CUBE, place=(9, 9, 9))
            nine = Picture(2, [(2 * a + 1, b) for a in range(3) for b in range(3)], [])
            refuses(self, Barred, 3, call, picture=nine, place=(0, 0))
            refuses(self, Barred, 2, call, picture=Picture(2, box((0, 0), (2, 2)), []),
                    place=(0, 0))


class InABox(unittest.TestCase):
    def test_three_posts(self):
        answers(self, [(1, 1), (3, 1)], forced_in, picture=THREE, low=(0, 0), high=(3, 2))
        answers(self, [(-1, -1), (-1, 1), (1, -1), (1, 1)], forced_in, picture=THREE,
                low=(-2, -2), high=(2, 2))

    def test_places_that_stand_in_the_picture_are_not_told(self):
        picture = Picture(2, THREE.seen, [(1, 1), (0, 2)])
        answers(self, [(1, 3), (3, 1), (3, 3)], forced_in, picture=picture, low=(0, 0), high=(3, 3))

    def test_boxes_of_one_place_and_empty_ones(self):
        answers(self, [(1, 1)], forced_in, picture=THREE, low=(1, 1), high=(1, 1))
        answers(self, [], forced_in, picture=THREE, low=(0, 1), high=(0, 1))
        answers(self, [], forced_in, picture=THREE, low=(2, 2), high=(2, 2))
        for low, high in [((1, 1), (0, 1)), ((1, 1), (1, 0)), ((5, 5), (0, 0)),
                          ((1, FAR), (3001, -FAR)), ((FAR, 1), (-FAR, 3001)),
                          ((0, 1), (FAR, 0))]:
            answers(self, [], forced_in, picture=THREE, low=low, high=high)
        for low, high in [((0, 0, 1), (3000, 3000, 0)), ((0, 1, 0), (3000, 0, 3000)),
                          ((1, 0, 0), (0, 3000, 3000))]:
            answers(self, [], forced_in, picture=SEVEN, low=low, high=high)

    def test_every_lacking_tuple(self):
        for picture, prime, lacking in LACKING:
            size = picture.size
            for low, high in [((-5,) * size, (6,) * size), ((FAR - 4,) * size, (FAR + 4,) * size)]:
                expected = [place for place in box(low, high)
                            if remain(place, prime) == lacking and place not in picture]
                answers(self, expected, forced_in, picture=picture, low=low, high=high)
                self.assertGreater(len(expected), 1)

    def test_three_thousand_places(self):
        low, high = (FAR - 59, 1 - FAR), (FAR, 50 - FAR)
        found = forced_in(THREE, low, high)
        exactly(self, found, [place for place in box(low, high) if remain(place, 2) == (1, 1)])
        exactly(self, len(found), 750)
        found = forced_in(THREE, (1, 0), (1, 2999))
        exactly(self, found, [(1, n) for n in range(1, 3000, 2)])
        found = forced_in(SEVEN, (0, -14, -7), (14, 0, 5))
        exactly(self, found, [place for place in box((0, -14, -7), (14, 0, 5))
                              if remain(place, 2) == (0, 0, 0)])

    def test_the_list_is_new(self):
        found = forced_in(THREE, (0, 0), (3, 2))
        found.clear()
        exactly(self, forced_in(THREE, (0, 0), (3, 2)), [(1, 1), (3, 1)])
        exactly(self, THREE.hidden, [])

    def test_errors_in_their_order(self):
        for picture in (THREE, SQUARE):
            for low, high, wrong_one in [((), (1,), ()), ((1, 2, 3), (1, 2, 3), (1, 2, 3)),
                                         ((0, 0), (1,), (1,)), ((5, 5), (1, 2, 3), (1, 2, 3)),
                                         ((1,), (0, 0), (1,)), ((1, 2), (0,) * 6, (0,) * 6)]:
                refuses(self, InvalidPlace, wrong_one, forced_in,
                        picture=picture, low=low, high=high)
        refuses(self, InvalidPlace, (1, 1), forced_in, picture=CUBE, low=(1, 1), high=(2, 2))
        for low, high in [((0, 0), (3, 3)), ((3, 3), (0, 0)), ((0, 0), (0, 0))]:
            refuses(self, Barred, 2, forced_in, picture=SQUARE, low=low, high=high)


class WhereItIsShown(unittest.TestCase):
    """Forced places checked by what is seen at the shifts of whole windows."""

    def test_small_pictures_near_the_eye(self):
        window = around((0, 0), 22)
        for seen, hidden in list(small_pictures((0, 0), (1, 1)))[::2]:
            picture = Picture(2, seen, hidden)
            shifts = [shift for shift in window if shown(picture, shift)]
            for place in [(0, 0), (1, 1), (1, 0), (2, 1), (3, 3), (-1, 2)]:
                if len(seen) < 4:
                    words = {shown(Picture(2, [place], []), shift) for shift in shifts}
                    expected = {(True,): "seen", (False,): "hidden", (False, True): "open"}
                    exactly(self, status(picture, place), expected[tuple(sorted(words))])

    def test_forced_places_are_hidden_near_and_far(self):
        for picture, prime, _ in LACKING:
            size = picture.size
            forced = Picture(size, [], forced_in(picture, (-4,) * size, (5,) * size))
            self.assertGreater(len(forced), 0)
            shifts = around((0,) * size, 6) + around((10 ** 20,) * size, 4)
            shifts += [find_shift(picture), both_ways(picture, (1, -1, 1)[:size])]
            many = 0
            for shift in shifts[:-1] + list(shifts[-1] or ()):
                if shown(picture, shift):
                    many += 1
                    exactly(self, shown(forced, shift), True)
            self.assertGreater(many, 0)


class BothWays(unittest.TestCase):
    def two_ways(self, picture, place):
        """Check that an open place is seen at the first of two shifts and hidden at the second."""
        before = (picture.seen, picture.hidden)
        found = both_ways(picture, place)
        exactly(self, both_ways(place=place, picture=picture), found)
        exactly(self, (picture.seen, picture.hidden), before)
        self.assertIs(type(found), tuple)
        seen, hidden = found
        self.assertTrue(shown(picture, seen) and shown(picture, hidden))
        exactly(self, shown(Picture(picture.size, [place], []), seen), True)
        exactly(self, shown(Picture(picture.size, [place], []), hidden), False)

    def test_open_places(self):
        for place in [(2, 2), (-1, 0), (0, -FAR), (FAR + 1, 7), (40, 40)]:
            self.two_ways(THREE, place)
        for place in [(0, 0, 3), (-2, 0, 4), (1 - FAR, 40, FAR), (FAR, 1, -FAR)]:
            self.two_ways(Picture(3, SEVEN.seen[1:], [(2, 2, 3)]), place)

    def test_places_that_are_not_open(self):
        picture = Picture(2, THREE.seen, [(2, 2)])
        for place in [(0, 0), (1, 0), (2, 2), (1, 1), (FAR, FAR)]:
            answers(self, None, both_ways, picture=picture, place=place)
        answers(self, None, both_ways, picture=SEVEN, place=(2, 2, -4))

    def test_all_places_of_a_box(self):
        for picture, prime, lacking in LACKING:
            for place in box((-2,) * picture.size, (2,) * picture.size):
                if status(picture, place) == "open":
                    self.two_ways(picture, place)
                else:
                    answers(self, None, both_ways, picture=picture, place=place)

    def test_pictures_without_seen_or_hidden_places(self):
        for size in (2, 3):
            place = (3, -5, 7)[:size]
            self.two_ways(Picture(size, [], []), place)
            self.two_ways(Picture(size, [], box((0,) * size, (1,) * size)), place)
            self.two_ways(Picture(size, [(0,) * size], []), place)

    def test_thirty_seen_and_forty_hidden_places(self):
        places = [place for place in box((-6, -6), (6, 6)) if any(n % 2 for n in place)]
        free = [place for place in places if any(n % 3 for n in place)]
        rest = [place for place in box((-6, -6), (6, 6)) if place not in free]
        picture = Picture(2, free[:60:2], rest[:40])
        for place in [(7, 2), (40, -39), (FAR, 10 ** 59)]:
            self.two_ways(picture, place)

    def test_a_place_like_seen_ones_by_many_primes(self):
        number = 1
        for prime in (2, 3, 5, 7, 11, 13, 17, 19, 23, 29, 31, 37, 41, 43, 47, 53, 59, 61):
            number *= prime
        self.two_ways(THREE, (number, 0))
        self.two_ways(THREE, (number * 10 ** 30, -number))


if __name__ == "__main__":
    unittest.main()
