import random
import unittest
from math import gcd

from seenposts.counts import count_seen, count_shown, first_shown, shown_in
from seenposts.errors import InvalidPlace
from seenposts.pictures import Picture
from tests.helping import added, answers, around, box, exactly, refuses, shown

THREE = Picture(2, [(0, 0), (0, 1), (1, 0)], [])
SQUARE = Picture(2, [(0, 0), (0, 1), (1, 0), (1, 1)], [])
EYE = Picture(2, [], [(0, 0)])
FAR = 10 ** 60 - 1


def plain_count(low, high):
    return len([place for place in box(low, high) if gcd(*place) == 1])


def moebius(number):
    """Moebius's function, by dividing."""
    sign = 1
    for prime in range(2, number + 1):
        if number % prime == 0:
            number //= prime
            sign = -sign
            if number % prime == 0:
                return 0
    return sign


class CountSeen(unittest.TestCase):
    def test_small_boxes(self):
        for low, high, expected in [
                ((1, 1), (3, 3), 7), ((-1, -1, -1), (1, 1, 1), 26), ((-1, -1), (1, 1), 8),
                ((1, 1, 1), (2, 2, 2), 7), ((0, 1), (0, 5), 1), ((0, -5), (0, 5), 2),
                ((2, 2), (2, 9), 4), ((1, -3), (1, 3), 7), ((0, 0, 0), (0, 0, 3), 1)]:
            exactly(self, plain_count(low, high), expected)
            answers(self, expected, count_seen, low=low, high=high)

    def test_boxes_of_one_place(self):
        for place in around((0, 0), 4) + around((0, 0, 0), 2) + [(2000, -1999), (-2000, 2000)]:
            answers(self, 1 if gcd(*place) == 1 else 0, count_seen, low=place, high=place)

    def test_empty_boxes(self):
        for low, high in [((1, 1), (0, 5)), ((1, 1), (5, 0)), ((3, 3), (2, 2)),
                          ((0, 0), (2000, -1)), ((1, 1, 1), (2, 2, 0)), ((1, 1, 1), (2, 0, 2)),
                          ((1, 1, 1), (0, 2, 2)), ((5, 5), (-5, -5)), ((2000, 0), (-2000, 9))]:
            answers(self, 0, count_seen, low=low, high=high)

    def test_many_boxes(self):
        pick = random.Random(11)
        for size, far in [(2, 40), (3, 9)]:
            for _ in range(150):
                ends = [sorted([pick.randrange(-far, far + 1), pick.randrange(-far, far + 1)])
                        for _ in range(size)]
                low, high = tuple(a for a, b in ends), tuple(b for a, b in ends)
                answers(self, plain_count(low, high), count_seen, low=low, high=high)

    def test_boxes_far_out(self):
        for low, high in [((1970, -2000), (2000, -1960)), ((-2000, -10), (-1990, 10)),
                          ((1995, 1990, -2000), (2000, 2000, -1995)), ((0, 1990), (0, 2000)),
                          ((1999, 0), (2000, 2000))]:
            answers(self, plain_count(low, high), count_seen, low=low, high=high)

    def test_the_greatest_boxes(self):
        signs = [(number, moebius(number)) for number in range(1, 2001)]
        for size in (2, 3):
            expected = sum([sign * ((2 * (2000 // number) + 1) ** size - 1)
                            for number, sign in signs])
            answers(self, expected, count_seen, low=(-2000,) * size, high=(2000,) * size)
            expected = sum([sign * (2000 // number) ** size for number, sign in signs])
            answers(self, expected, count_seen, low=(1,) * size, high=(2000,) * size)
        answers(self, 8 * 304192, count_seen, low=(-1000, -1000), high=(1000, 1000))

    def test_mirrored_boxes(self):
        answers(self, count_seen((3, -17), (90, 40)), count_seen, low=(-40, 3), high=(17, 90))
        exactly(self, sum([count_seen((a, -50), (a, 50)) for a in range(-20, 30)]),
                count_seen((-20, -50), (29, 50)))

    def test_wrong_places(self):
        for low, high, wrong_one in [
                ((), (), ()), ((1,), (2, 2), (1,)), ((1, 1, 1, 1), (2, 2, 2, 2), (1, 1, 1, 1)),
                ((1,), (), (1,)), ((0,) * 6, (1,), (0,) * 6), ((1, 1), (2,), (2,)),
                ((1, 1), (), ()), ((1, 1), (2, 2, 2), (2, 2, 2)), ((1, 1, 1), (2, 2), (2, 2)),
                ((9, 9), (2,), (2,)), ((9, 9, 9), (0,) * 6, (0,) * 6)]:
            refuses(self, InvalidPlace, wrong_one, count_seen, low=low, high=high)


class ShownIn(unittest.TestCase):
    def both(self, picture, low, high, expected=None):
        """Check the list and the number of the shifts."""
        if expected is None:
            expected = [shift for shift in box(low, high) if shown(picture, shift)]
        answers(self, expected, shown_in, picture=picture, low=low, high=high)
        answers(self, len(expected), count_shown, picture=picture, low=low, high=high)

    def test_three_posts(self):
        self.both(THREE, (0, 0), (3, 3), [(1, 1), (1, 3), (3, 1)])
        self.both(THREE, (-2, -2), (1, 1), [(-1, -1), (-1, 1), (1, -1), (1, 1)])

    def test_boxes_around_the_eye_and_far_away(self):
        space = Picture(3, [(0, 0, 0), (1, 2, 0)], [(1, 1, 1)])
        for picture in (THREE, EYE, Picture(2, [(3, -1)], [(0, 0), (2, -2)]), space,
                        Picture(2, [(40, 40)], [(-40, -40)])):
            size = picture.size
            for low, high in [((-4,) * size, (5,) * size), ((0,) * size, (6,) * size),
                              ((FAR - 7,) * size, (FAR,) * size),
                              ((-FAR, FAR - 6, 1)[:size], (7 - FAR, FAR, 8)[:size])]:
                self.both(picture, low, high)

    def test_boxes_of_one_place(self):
        self.both(THREE, (1, 1), (1, 1), [(1, 1)])
        self.both(THREE, (0, 0), (0, 0), [])
        self.both(EYE, (0, 0), (0, 0), [(0, 0)])
        self.both(Picture(3, [], [(0, 0, 0)]), (2, 4, 6), (2, 4, 6), [(2, 4, 6)])

    def test_empty_boxes(self):
        for low, high in [((1, 1), (0, 1)), ((1, 1), (1, 0)), ((FAR, 0), (-FAR, 3000)),
                          ((0, FAR), (3000, -FAR)), ((0, 1), (FAR, 0))]:
            self.both(THREE, low, high, [])
        for low, high in [((0, 0, 1), (3000, 3000, 0)), ((1, 0, 0), (0, 3000, 3000))]:
            self.both(Picture(3, [], []), low, high, [])

    def test_pictures_without_places_and_barred_ones(self):
        self.both(Picture(2, [], []), (-1, 0), (1, 1), box((-1, 0), (1, 1)))
        self.both(SQUARE, (-20, -20), (20, 20), [])
        self.both(Picture(2, SQUARE.seen, [(5, 5)]), (0, 0), (5, 5), [])

    def test_three_thousand_places(self):
        hidden = [(6 * a, 6 * b) for a in range(7) for b in range(5)]
        self.both(Picture(2, [], hidden), (-27, -27), (27, 26))
        self.both(THREE, (FAR - 59, 3), (FAR, 52))
        self.both(Picture(2, [(0, 0)], []), (30, FAR), (30, FAR + 2999))
        self.both(Picture(3, [(0, 0, 0), (1, 1, 1)], []), (-7, -7, -6), (7, 7, 6))

    def test_the_greatest_pictures(self):
        low, high = (-20, -20), (20, 20)
        for shift in [(0, 0), (17, -11)]:
            places = [added(place, (-shift[0], -shift[1])) for place in box((-5, -5), (20, 20))]
            seen = [place for place in places if shown(Picture(2, [place], []), shift)][::3][:30]
            hidden = [place for place in places if shown(EYE.shifted(place), shift)][::2][:40]
            picture = Picture(2, seen, hidden)
            exactly(self, len(picture), 70)
            self.both(picture, low, high)
            exactly(self, shift in shown_in(picture, low, high), True)

    def test_the_list_is_new(self):
        found = shown_in(THREE, (0, 0), (3, 3))
        found.clear()
        exactly(self, shown_in(THREE, (0, 0), (3, 3)), [(1, 1), (1, 3), (3, 1)])

    def test_wrong_places(self):
        space = Picture(3, [(0, 0, 0)], [])
        for call in (shown_in, count_shown):
            for low, high, wrong_one in [
                    ((), (), ()), ((1,), (2, 2), (1,)), ((1, 1, 1), (2, 2, 2), (1, 1, 1)),
                    ((1, 1), (2,), (2,)), ((9, 9), (2, 2, 2), (2, 2, 2)), ((0,) * 6, (), (0,) * 6)]:
                for picture in (THREE, SQUARE, Picture(2, [], [])):
                    refuses(self, InvalidPlace, wrong_one, call,
                            picture=picture, low=low, high=high)
            for low, high, wrong_one in [((1, 1), (2, 2), (1, 1)), ((1, 1, 1), (2, 2), (2, 2)),
                                         ((1, 1, 1, 1), (2,), (1, 1, 1, 1))]:
                refuses(self, InvalidPlace, wrong_one, call, picture=space, low=low, high=high)


class FirstShown(unittest.TestCase):
    def check(self, picture, most):
        """Check against all shifts of the window, in their order."""
        window = around((0,) * picture.size, most)
        found = [shift for shift in window if shown(picture, shift)]
        found = sorted(found, key=lambda shift: (max(map(abs, shift)), shift))
        answers(self, (found + [None])[0], first_shown, picture=picture, most=most)

    def test_some_pictures(self):
        for picture, most, expected in [
                (THREE, 5, (-1, -1)), (Picture(2, [], [(0, 0), (0, 1)]), 1, None),
                (Picture(2, [(0, 0)], []), 1, (-1, -1)), (Picture(2, [(0, 0)], []), 0, None),
                (EYE, 0, (0, 0)), (EYE, 25, (0, 0)), (Picture(2, [], []), 0, (0, 0)),
                (Picture(3, [(0, 0, 0)], []), 6, (-1, -1, -1)), (SQUARE, 25, None),
                (Picture(3, [], []), 6, (0, 0, 0)), (Picture(2, [(0, 0)], [(1, 1)]), 3, (-1, -1)),
                (Picture(2, [(1, 0)], []), 0, (0, 0)), (Picture(2, [(3, 0)], [(2, 0)]), 4, (-2, -2))]:
            window = around((0,) * picture.size, most)
            exactly(self, expected is None or shown(picture, expected), True)
            exactly(self, expected is None or expected in window, True)
            answers(self, expected, first_shown, picture=picture, most=most)
            self.check(picture, most)

    def test_the_greatest_coordinate_counts_before_the_order_of_tuples(self):
        picture = Picture(2, [(0, 0), (1, 1)], [(1, 0)])
        self.check(picture, 25)
        found = {}
        for seed in range(60):
            pick = random.Random(seed)
            places = pick.sample(around((0, 0), 5), 5)
            for cut in (0, 2, 4):
                picture = Picture(2, places[:cut], places[cut:])
                self.check(picture, 6)
                self.check(picture, 7)
                found[first_shown(picture, 7)] = True
        self.assertGreater(len(found), 40)

    def test_in_space(self):
        pick = random.Random(12)
        for _ in range(12):
            places = pick.sample(around((0, 0, 0), 4), 4)
            self.check(Picture(3, places[:2], places[2:]), 6)
            self.check(Picture(3, places[:1], places[1:]), 3)

    def test_the_first_shift_stands_at_the_edge(self):
        square = Picture(2, [], SQUARE.seen)
        self.check(square, 19)
        self.check(square, 20)
        self.check(square, 21)
        self.check(square, 25)
        answers(self, None, first_shown, picture=square, most=13)
        for most in (24, 25):
            self.check(Picture(2, [(0, 0)], [(1, 0), (0, 1), (1, 1), (-1, 0), (0, -1)]), most)

    def test_a_shift_far_from_the_eye_is_not_near_it(self):
        picture = Picture(2, [], box((0, 0), (3, 3)))
        answers(self, None, first_shown, picture=picture, most=25)
        answers(self, None, first_shown, picture=Picture(3, [], box((0, 0, 0), (2, 2, 2))), most=6)


if __name__ == "__main__":
    unittest.main()
