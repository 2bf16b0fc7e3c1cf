import random
import unittest

from seenposts.errors import Barred, InvalidSize
from seenposts.forced import alike, follows, forced_in, opposed, status, whole
from seenposts.pictures import Picture
from seenposts.shows import find_shift
from tests.helping import answers, around, box, exactly, only_by, refuses, remain, shown
from tests.helping import small_pictures, wrong

THREE = Picture(2, [(0, 0), (0, 1), (1, 0)], [])
SQUARE = Picture(2, [(0, 0), (0, 1), (1, 0), (1, 1)], [])
SEVEN = Picture(3, box((0, 0, 0), (1, 1, 1))[1:], [])
CUBE = Picture(3, box((0, 0, 0), (1, 1, 1)), [])
FAR = 10 ** 60 - 1


def parts(picture):
    return (picture.size, picture.seen, picture.hidden)


class Following(unittest.TestCase):
    def test_forced_places_follow(self):
        corner = Picture(2, [], [(1, 1)])
        for one, other, expected in [
                (THREE, corner, True), (corner, THREE, False), (THREE, THREE, True),
                (THREE, Picture(2, [], [(1, 1), (3, -5)]), True),
                (THREE, Picture(2, [(0, 1)], [(1, 1), (3, -5)]), True),
                (THREE, Picture(2, [], [(1, 1), (2, 1)]), False),
                (THREE, Picture(2, [(1, 1)], []), False), (THREE, Picture(2, [(2, 1)], []), False),
                (THREE, Picture(2, [(0, 0), (2, 1)], []), False),
                (Picture(2, [(0, 1)], [(1, 1)]), Picture(2, [(0, 1)], []), True),
                (Picture(2, [(0, 1)], [(1, 1)]), corner, True),
                (Picture(2, [(0, 1)], [(1, 1)]), Picture(2, [(1, 1)], []), False),
                (Picture(2, [(0, 1)], [(1, 1)]), Picture(2, [], [(0, 1)]), False),
                (SEVEN, Picture(3, SEVEN.seen[2:], [(4, 4, 2)]), True),
                (SEVEN, Picture(3, SEVEN.seen[2:], [(4, 4, 3)]), False)]:
            answers(self, expected, follows, one=one, other=other)

    def test_without_places(self):
        none = Picture(2, [], [])
        answers(self, True, follows, one=none, other=none)
        answers(self, True, follows, one=THREE, other=none)
        answers(self, False, follows, one=none, other=THREE)
        answers(self, False, follows, one=none, other=Picture(2, [], [(0, 0)]))
        answers(self, True, alike, one=none, other=Picture(2, [], []))
        answers(self, False, opposed, one=none, other=THREE)

    def test_everything_follows_from_what_is_not_possible(self):
        for other in [THREE, SQUARE, Picture(2, [], [(0, 0)]), Picture(2, [(7, 7)], [])]:
            answers(self, True, follows, one=SQUARE, other=other)
            answers(self, True, opposed, one=SQUARE, other=other)
            answers(self, True, opposed, one=other, other=SQUARE)
        answers(self, False, follows, one=THREE, other=SQUARE)
        answers(self, False, follows, one=Picture(2, [], []), other=SQUARE)
        answers(self, True, follows, one=CUBE, other=SEVEN)

    def test_alike(self):
        told = Picture(2, THREE.seen, [(1, 1), (-7, 3)])
        answers(self, True, alike, one=THREE, other=told)
        answers(self, True, alike, one=told, other=THREE)
        answers(self, True, alike, one=told, other=Picture(2, THREE.seen, [(5, 5)]))
        answers(self, False, alike, one=THREE, other=Picture(2, THREE.seen, [(1, 1), (2, 2)]))
        answers(self, False, alike, one=Picture(2, THREE.seen, [(1, 1), (2, 2)]), other=THREE)
        answers(self, False, alike, one=THREE, other=THREE.shifted((1, 1)))
        answers(self, True, alike, one=SQUARE, other=SQUARE.shifted((2, 3)))
        answers(self, False, alike, one=SQUARE, other=THREE)
        answers(self, False, alike, one=THREE, other=SQUARE)

    def test_opposed(self):
        for one, other, expected in [
                (THREE, Picture(2, [(1, 1)], []), True), (Picture(2, [(1, 1)], []), THREE, True),
                (THREE, Picture(2, [], [(1, 1)]), False), (THREE, THREE, False),
                (THREE, Picture(2, [], [(0, 1)]), True), (Picture(2, [], [(0, 1)]), THREE, True),
                (THREE, Picture(2, [(2, 2)], []), False), (THREE, THREE.shifted((1, 0)), True),
                (THREE, THREE.shifted((2, 2)), False),
                (Picture(2, [(0, 0)], [(9, 9)]), Picture(2, [(8, 8)], [(7, 7)]), False),
                (Picture(2, [(0, 0)], [(9, 9)]), Picture(2, [(8, 8)], [(9, 9)]), False),
                (SEVEN, Picture(3, [(2, 2, 2)], []), True),
                (SEVEN, Picture(3, [(2, 2, 3)], []), False)]:
            answers(self, expected, opposed, one=one, other=other)

    def test_thirty_seen_places_each(self):
        nine = only_by(7, 2)
        one, other = Picture(2, nine[:30], []), Picture(2, nine[19:], [])
        answers(self, True, opposed, one=one, other=other)
        answers(self, False, opposed, one=one, other=Picture(2, nine[19:-1], []))
        answers(self, False, follows, one=one, other=other)
        hidden = [place for place in box((-40, -40), (40, 40)) if place[0] % 7 == 0][:40]
        told = Picture(2, nine[:30], hidden)
        answers(self, True, follows, one=told, other=one)
        answers(self, True, follows, one=told, other=Picture(2, [], hidden))
        answers(self, False, opposed, one=told, other=one)
        answers(self, True, opposed, one=told, other=Picture(2, [hidden[-1]], []))

    def test_unlike_sizes(self):
        for call in (follows, alike, opposed):
            for one, other, size in [(THREE, SEVEN, 3), (SEVEN, THREE, 2), (SQUARE, CUBE, 3),
                                     (CUBE, SQUARE, 2), (Picture(2, [], []), SEVEN, 3),
                                     (SEVEN, Picture(2, [], []), 2)]:
                refuses(self, InvalidSize, size, call, one=one, other=other)

    def test_it_is_told_by_where_all_small_pictures_are_shown(self):
        window = around((0, 0), 22)
        pictures = [Picture(2, *told) for told in small_pictures((0, 0), (1, 1))]
        marks = [sum([1 << at for at, shift in enumerate(window) if shown(picture, shift)])
                 for picture in pictures]
        for one, here in zip(pictures, marks):
            for other, there in zip(pictures, marks):
                exactly(self, follows(one, other), here & ~there == 0)
                exactly(self, opposed(one, other), here & there == 0)
                exactly(self, alike(one, other), here == there)

    def test_it_holds_far_from_the_eye(self):
        pick = random.Random(5)
        near = box((0, 0), (2, 2))
        window = around((10 ** 30, -10 ** 25), 9)
        following = against = 0
        for _ in range(200):
            places = pick.sample(near, 4)
            one = Picture(2, places[:3], [])
            after, against_it = Picture(2, places[2:3], places[3:]), Picture(2, places[3:], [])
            shifts = [shift for shift in window if shown(one, shift)]
            self.assertGreater(len(shifts), 0)
            if follows(one, after):
                following += 1
                self.assertTrue(all(shown(after, shift) for shift in shifts))
            if opposed(one, against_it):
                against += 1
                self.assertFalse(any(shown(against_it, shift) for shift in shifts))
        self.assertGreater(following, 10)
        exactly(self, following, against)


class Whole(unittest.TestCase):
    def check(self, picture, hidden):
        before = parts(picture)
        for found in (whole(picture), whole(picture=picture)):
            exactly(self, parts(found), (picture.size, picture.seen, hidden))
        exactly(self, parts(picture), before)
        exactly(self, alike(picture, found), True)
        exactly(self, whole(found) == found, True)

    def test_three_posts(self):
        self.check(THREE, [(1, 1)])
        self.check(SEVEN, [(0, 0, 0)])

    def test_the_box_of_all_places_counts(self):
        self.check(Picture(2, THREE.seen, [(3, 2)]), [(1, 1), (3, 1), (3, 2)])
        self.check(Picture(2, [(0, 0), (0, 1), (-3, 0)], []), [(-3, 1), (-1, 1)])
        self.check(Picture(2, [(2, 0), (0, 1), (-3, 4)], [(0, -2)]),
                   [(-3, -1), (-3, 1), (-3, 3), (-1, -1), (-1, 1), (-1, 3), (0, -2),
                    (1, -1), (1, 1), (1, 3)])
        self.check(Picture(2, THREE.seen, [(1, 1)]), [(1, 1)])

    def test_nothing_is_forced(self):
        self.check(Picture(2, [(0, 0), (9, 9)], [(3, 4)]), [(3, 4)])
        self.check(Picture(2, [], [(0, 0), (5, 5)]), [(0, 0), (5, 5)])
        self.check(Picture(3, [(1, 1, 1)], []), [])

    def test_without_places(self):
        for size in (2, 3):
            self.check(Picture(size, [], []), [])

    def test_several_primes(self):
        seen = [place for place in box((0, 0), (6, 7))
                if any(n % 2 for n in place) and any(n % 3 for n in place)][:29]
        picture = Picture(2, seen + [(9, 1)], [(9, 9)])
        found = whole(picture)
        exactly(self, found.hidden, [place for place in box((0, 0), (9, 9)) if place == (9, 9)
                                     or status(picture, place) == "hidden"])
        exactly(self, [place in found for place in [(2, 2), (3, 3), (9, 3), (9, 7)]],
                [True, True, True, False])
        exactly(self, found.hidden[:-1], forced_in(picture, (0, 0), (9, 9)))
        exactly(self, shown(found, find_shift(picture)), True)

    def test_a_box_of_three_thousand_places(self):
        seen = [(0, 0), (53, 0), (0, 54)]
        forced = [place for place in box((0, 0), (53, 54)) if remain(place, 2) == (1, 1)]
        picture = Picture(2, [(0, 0), (53, 0), (0, 53)], [(1, 54)])
        exactly(self, parts(whole(picture)), (2, sorted(picture.seen), sorted(forced + [(1, 54)])))
        exactly(self, parts(whole(Picture(2, seen, []))), (2, sorted(seen), []))
        picture = Picture(3, [(-40, 0, 0), (40, 5, 5), (1, 2, 3)], [(0, 0, 6)])
        exactly(self, parts(whole(picture)), parts(picture))

    def test_the_lists_are_new(self):
        found = whole(THREE)
        found.hidden.append((5, 5))
        exactly(self, (whole(THREE).hidden, THREE.hidden), ([(1, 1)], []))

    def test_not_possible(self):
        refuses(self, Barred, 2, whole, picture=SQUARE)
        refuses(self, Barred, 2, whole, picture=CUBE)
        refuses(self, Barred, 3, whole, picture=Picture(2, only_by(3, 2), [(0, 0)]))
        refuses(self, Barred, 5, whole, picture=Picture(2, only_by(5, 2), []))
        refuses(self, Barred, 3, whole, picture=Picture(3, only_by(3, 3), []))
        wrong(self, Barred, 2, whole, Picture(2, box((0, 0), (2, 2)), []))


if __name__ == "__main__":
    unittest.main()
