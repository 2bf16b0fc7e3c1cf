import random
import unittest
from itertools import permutations, product

from seenposts.errors import InvalidMatrix, InvalidPlace
from seenposts.pictures import Picture
from seenposts.places import is_seen
from tests.helping import exactly, wrong

BIG = 10 ** 40 - 1
FAR = 10 ** 60 - 1


def parts(picture):
    return (picture.size, picture.seen, picture.hidden)


def leibniz(rows):
    """The determinant as the sum over all orders of the columns."""
    total = 0
    for order in permutations(range(len(rows))):
        sign = 1
        for at, column in enumerate(order):
            for later in order[at + 1:]:
                sign = -sign if later < column else sign
        worth = sign
        for row, column in zip(rows, order):
            worth *= row[column]
        total += worth
    return total


class Shifting(unittest.TestCase):
    def test_a_shift_is_added_to_each_place(self):
        picture = Picture(2, [(1, 0), (0, 0)], [(1, 1), (-4, 9)])
        exactly(self, parts(picture.shifted((2, -3))),
                (2, [(2, -3), (3, -3)], [(-2, 6), (3, -2)]))
        exactly(self, parts(Picture(3, [(1, 2, 3)], [(0, 0, 0)]).shifted((10, -20, 30))),
                (3, [(11, -18, 33)], [(10, -20, 30)]))

    def test_nothing_is_added_and_nothing_is_there(self):
        picture = Picture(2, [(1, 0)], [(1, 1)])
        exactly(self, picture.shifted((0, 0)) == picture, True)
        exactly(self, parts(Picture(3, [], []).shifted((1, 2, 3))), (3, [], []))

    def test_many_digits_and_back(self):
        picture = Picture(2, [(BIG, -BIG)], [(-BIG, 0)])
        there = picture.shifted((FAR, -FAR))
        exactly(self, parts(there), (2, [(BIG + FAR, -BIG - FAR)], [(FAR - BIG, -FAR)]))
        exactly(self, there.shifted((-FAR, FAR)) == picture, True)
        exactly(self, (FAR - BIG, -FAR) in there, True)

    def test_by_name(self):
        exactly(self, Picture(2, [(1, 0)], []).shifted(shift=(1, 1)).seen, [(2, 1)])

    def test_wrong_shifts(self):
        for picture, shifts in [(Picture(2, [(1, 0)], []), [(), (1,), (1, 2, 3), (0, 0, 0, 0)]),
                                (Picture(3, [], []), [(), (1, 2), (0,) * 6])]:
            for shift in shifts:
                wrong(self, InvalidPlace, shift, picture.shifted, shift)
                wrong(self, InvalidPlace, shift, picture.shifted, shift=shift)


class Mapping(unittest.TestCase):
    def test_rows_lead_to_coordinates(self):
        picture = Picture(2, [(1, 0), (0, 1)], [(5, 7)])
        exactly(self, parts(picture.mapped([[1, 1], [0, 1]])), (2, [(1, 0), (1, 1)], [(12, 7)]))
        exactly(self, parts(picture.mapped([[0, -1], [1, 0]])), (2, [(-1, 0), (0, 1)], [(-7, 5)]))
        exactly(self, parts(picture.mapped([[2, 3], [1, 2]])), (2, [(2, 1), (3, 2)], [(31, 19)]))

    def test_in_space(self):
        picture = Picture(3, [(1, 2, 3)], [(10, 20, 30)])
        found = picture.mapped([[0, 0, 1], [1, 0, 0], [5, 1, 0]])
        exactly(self, parts(found), (3, [(3, 1, 7)], [(30, 10, 70)]))
        found = picture.mapped([[1, 2, 3], [0, 1, 4], [5, 6, 0]])
        exactly(self, parts(found), (3, [(14, 14, 17)], [(140, 140, 170)]))

    def test_determinant_minus_one(self):
        exactly(self, Picture(2, [(2, 3)], []).mapped([[0, 1], [1, 0]]).seen, [(3, 2)])
        rows = [[1, 0, 0], [0, 1, 0], [0, 0, -1]]
        exactly(self, Picture(3, [(2, 3, 4)], []).mapped(rows).seen, [(2, 3, -4)])

    def test_large_entries_and_many_digits(self):
        picture = Picture(2, [(BIG, -BIG)], [(1, BIG)])
        found = picture.mapped([[1000, 999], [-999, -998]])
        exactly(self, parts(found), (2, [(BIG, -BIG)], [(1000 + 999 * BIG, -999 - 998 * BIG)]))

    def test_without_places_the_matrix_still_counts(self):
        none = Picture(2, [], [])
        exactly(self, parts(none.mapped([[1, 0], [7, 1]])), (2, [], []))
        wrong(self, InvalidMatrix, [[2, 0], [0, 1]], none.mapped, [[2, 0], [0, 1]])

    def test_by_name_and_the_rows_stay(self):
        rows = [[1, 1], [0, 1]]
        picture = Picture(2, [(0, 1)], []).mapped(rows=rows)
        exactly(self, rows, [[1, 1], [0, 1]])
        rows[0][0] = 50
        rows.clear()
        exactly(self, picture.seen, [(1, 1)])

    def test_every_small_matrix_of_the_plane(self):
        picture = Picture(2, [(1, 2)], [])
        for a, b, c, d in product(range(-2, 3), repeat=4):
            rows = [[a, b], [c, d]]
            if leibniz(rows) in (1, -1):
                exactly(self, picture.mapped(rows).seen, [(a + 2 * b, c + 2 * d)])
            else:
                wrong(self, InvalidMatrix, rows, picture.mapped, rows)

    def test_many_matrices_of_space(self):
        picture = Picture(3, [(1, 2, 4)], [])
        pick = random.Random(5)
        kept = 0
        for _ in range(3000):
            rows = [[pick.randrange(-2, 3) for _ in range(3)] for _ in range(3)]
            if leibniz(rows) in (1, -1):
                kept += 1
                expected = tuple(a + 2 * b + 4 * c for a, b, c in rows)
                exactly(self, picture.mapped(rows).seen, [expected])
            else:
                wrong(self, InvalidMatrix, rows, picture.mapped, rows)
        self.assertGreater(kept, 100)

    def test_seen_places_are_led_to_seen_ones_and_hidden_to_hidden(self):
        for size, rows in [(2, [[2, 3], [1, 2]]), (2, [[3, 2], [2, 1]]), (2, [[0, 1], [-1, 0]]),
                           (3, [[1, 2, 3], [0, 1, 4], [5, 6, 0]]),
                           (3, [[0, 1, 0], [1, 0, 0], [0, 7, 1]])]:
            places = list(product(range(-4, 5), repeat=size))
            picture = Picture(size, [place for place in places if is_seen(place)],
                              [place for place in places if not is_seen(place)])
            found = picture.mapped(rows)
            self.assertTrue(all(is_seen(place) for place in found.seen))
            self.assertFalse(any(is_seen(place) for place in found.hidden))
            self.assertEqual((len(found.seen), len(found)), (len(picture.seen), len(picture)))


class MappingWrong(unittest.TestCase):
    def test_determinants(self):
        plane, space = Picture(2, [(1, 0)], []), Picture(3, [], [(1, 0, 0)])
        for rows in [[[0, 0], [0, 0]], [[1, 1], [1, 1]], [[2, 0], [0, 1]], [[1, 0], [0, -2]],
                     [[1000, -1000], [1000, 1000]], [[1, 2], [3, 4]]]:
            wrong(self, InvalidMatrix, rows, plane.mapped, rows)
            wrong(self, InvalidMatrix, rows, plane.mapped, rows=rows)
        for rows in [[[1, 2, 3], [4, 5, 6], [7, 8, 9]], [[1, 0, 0], [0, 1, 0], [0, 0, 2]],
                     [[0, 1, 0], [1, 0, 0], [0, 0, 2]], [[0] * 3, [0] * 3, [0] * 3]]:
            wrong(self, InvalidMatrix, rows, space.mapped, rows)

    def test_rows_and_entries_too_many_or_too_few(self):
        plane, space = Picture(2, [(1, 0)], []), Picture(3, [], [])
        for rows in [[], [[]], [[], []], [[1, 0]], [[1], [0]], [[1], [0, 1]], [[1, 0], [0]],
                     [[1, 0], []], [[1, 0, 0], [0, 1]], [[1, 0], [0, 1, 0]],
                     [[1, 0], [0, 1], [0, 0]], [[1, 0], [0, 1], []],
                     [[1, 0, 0], [0, 1, 0], [0, 0, 1]], [[1, 0, 0], [0, 1, 0]]]:
            wrong(self, InvalidMatrix, rows, plane.mapped, rows)
        for rows in [[], [[], [], []], [[1, 0], [0, 1]], [[1, 0], [0, 1], [0, 0]],
                     [[1, 0, 0], [0, 1, 0]], [[1, 0, 0], [0, 1, 0], [0, 0]],
                     [[1, 0, 0], [0, 1, 0], [0, 0, 1, 0]],
                     [[1, 0, 0], [0, 1, 0], [0, 0, 1], [0, 0, 0]],
                     [[1, 0, 0, 0], [0, 1, 0, 0], [0, 0, 1, 0], [0, 0, 0, 1]]]:
            wrong(self, InvalidMatrix, rows, space.mapped, rows)

    def test_the_lists_in_the_error_are_new(self):
        row = [1, 1]
        for rows in ([row, row], [row], [[1, 0], [0, 2]], []):
            error = wrong(self, InvalidMatrix, [list(row) for row in rows],
                          Picture(2, [], []).mapped, rows)
            self.assertIsNot(error.value, rows)
            self.assertIs(type(error.value), list)
            for inner in error.value:
                self.assertFalse(any(inner is passed for passed in rows))
        error = wrong(self, InvalidMatrix, [[1, 1], [1, 1]], Picture(2, [], []).mapped, [row, row])
        self.assertIsNot(error.value[0], error.value[1])


class Least(unittest.TestCase):
    def test_the_least_values_become_zero(self):
        picture = Picture(2, [(3, -1), (5, 4)], [(9, -7)])
        exactly(self, parts(picture.least()), (2, [(0, 6), (2, 11)], [(6, 0)]))

    def test_the_hidden_places_count_too(self):
        exactly(self, parts(Picture(2, [(3, 3)], [(1, 8)]).least()), (2, [(2, 0)], [(0, 5)]))
        exactly(self, parts(Picture(3, [], [(-1, 4, 9), (0, 0, 0)]).least()),
                (3, [], [(0, 4, 9), (1, 0, 0)]))

    def test_one_place_and_no_place(self):
        exactly(self, parts(Picture(2, [(-8, 70)], []).least()), (2, [(0, 0)], []))
        for size in (2, 3):
            exactly(self, parts(Picture(size, [], []).least()), (size, [], []))

    def test_many_digits(self):
        picture = Picture(2, [(BIG, -BIG)], [(-BIG, BIG)])
        exactly(self, parts(picture.least()), (2, [(2 * BIG, 0)], [(0, 2 * BIG)]))

    def test_it_does_not_depend_on_a_shift(self):
        picture = Picture(3, [(1, 2, 3), (-3, 0, 7)], [(4, 4, -4)])
        for shift in [(0, 0, 0), (5, -6, 7), (-FAR, FAR, 1)]:
            exactly(self, picture.shifted(shift).least() == picture.least(), True)
        exactly(self, picture.least().least() == picture.least(), True)


if __name__ == "__main__":
    unittest.main()
