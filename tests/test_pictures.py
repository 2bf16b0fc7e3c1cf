import copy
import unittest
from unittest import mock

from seenposts.errors import DoublePlace, InvalidPlace, InvalidSize
from seenposts.pictures import Picture
from tests.helping import exactly, wrong

BIG = 10 ** 40 - 1


def parts(picture):
    return (picture.size, picture.seen, picture.hidden)


def many_places(count, sign):
    return [(sign * (BIG - 7 * k), (-1) ** k * (BIG - k * k)) for k in range(count)]


class Making(unittest.TestCase):
    def test_the_places_are_ascending(self):
        picture = Picture(2, [(3, 1), (-1, 5), (3, -2)], [(9, 9), (0, 0), (-9, 9)])
        exactly(self, parts(picture), (2, [(-1, 5), (3, -2), (3, 1)], [(-9, 9), (0, 0), (9, 9)]))

    def test_in_space(self):
        picture = Picture(3, [(1, 2, 3), (1, 2, -3), (0, 9, 9)], [(0, 0, 0)])
        exactly(self, parts(picture), (3, [(0, 9, 9), (1, 2, -3), (1, 2, 3)], [(0, 0, 0)]))

    def test_without_places(self):
        for size in (2, 3):
            exactly(self, parts(Picture(size, [], [])), (size, [], []))
            self.assertEqual(len(Picture(size, [], [])), 0)

    def test_by_name(self):
        picture = Picture(hidden=[(1, 1)], size=2, seen=[(0, 1)])
        exactly(self, parts(picture), (2, [(0, 1)], [(1, 1)]))

    def test_two_hundred_places_of_each_with_many_digits(self):
        seen, hidden = many_places(200, 1), many_places(200, -1)
        picture = Picture(2, seen, hidden)
        exactly(self, parts(picture), (2, sorted(seen), sorted(hidden)))
        self.assertEqual(len(picture), 400)

    def test_places_need_not_be_as_told_at_the_shift_zero(self):
        exactly(self, parts(Picture(2, [(0, 0)], [(0, 1)])), (2, [(0, 0)], [(0, 1)]))


class MakingWrong(unittest.TestCase):
    def test_sizes(self):
        for size in [0, 1, 4, -2, -3, 6, 10 ** 61]:
            wrong(self, InvalidSize, size, Picture, size, [], [])
            wrong(self, InvalidSize, size, Picture, size=size, seen=[(1, 1)], hidden=[])

    def test_the_size_comes_first(self):
        wrong(self, InvalidSize, 1, Picture, 1, [(1, 2, 3)], [(1, 1), (1, 1)])
        wrong(self, InvalidSize, 4, Picture, 4, [(1, 2, 3, 4), (1, 2, 3, 4)], [()])

    def test_places_with_another_number_of_coordinates(self):
        for place in [(), (1,), (1, 2, 3), (1, 2, 3, 4, 5, 6)]:
            wrong(self, InvalidPlace, place, Picture, 2, [(1, 1), place], [])
            wrong(self, InvalidPlace, place, Picture, 2, [(1, 1)], [(0, 0), place])
        for place in [(), (1, 2), (1, 2, 3, 4)]:
            wrong(self, InvalidPlace, place, Picture, 3, [place], [])
            wrong(self, InvalidPlace, place, Picture, 3, [], [place])

    def test_a_place_twice(self):
        wrong(self, DoublePlace, (1, 2), Picture, 2, [(1, 2), (0, 0), (1, 2)], [])
        wrong(self, DoublePlace, (1, 2), Picture, 2, [], [(1, 2), (0, 0), (1, 2)])
        wrong(self, DoublePlace, (1, 2), Picture, 2, [(5, 5), (1, 2)], [(0, 0), (1, 2)])
        wrong(self, DoublePlace, (1, 2, 3), Picture, 3, [(1, 2, 3)], [(1, 2, 3)])

    def test_the_first_wrong_place_counts(self):
        wrong(self, DoublePlace, (9, 9), Picture, 2, [(9, 9), (9, 9), (1, 1), (1, 1), (1,)], [])
        wrong(self, InvalidPlace, (1,), Picture, 2, [(9, 9), (1,), (9, 9)], [])
        wrong(self, InvalidPlace, (1,), Picture, 2, [(9, 9), (1,), (1,)], [])
        wrong(self, DoublePlace, (9, 9), Picture, 2, [(9, 9), (9, 9)], [(1,)])
        wrong(self, InvalidPlace, (1, 2, 3), Picture, 2, [(9, 9), (1, 2, 3)], [(9, 9), ()])
        wrong(self, DoublePlace, (9, 9), Picture, 2, [(9, 9)], [(8, 8), (9, 9), ()])
        wrong(self, InvalidPlace, (), Picture, 2, [(9, 9)], [(8, 8), (), (9, 9)])


class NothingIsKept(unittest.TestCase):
    def test_changing_the_lists_that_were_passed(self):
        seen, hidden = [(1, 0), (0, 0)], [(1, 1)]
        picture = Picture(2, seen, hidden)
        self.assertEqual((seen, hidden), ([(1, 0), (0, 0)], [(1, 1)]))
        seen.append((7, 7))
        hidden.clear()
        exactly(self, parts(picture), (2, [(0, 0), (1, 0)], [(1, 1)]))
        self.assertEqual(((7, 7) in picture, (1, 1) in picture, len(picture)), (False, True, 3))

    def test_one_list_for_both_arguments(self):
        places = []
        picture = Picture(2, places, places)
        places.append((1, 1))
        exactly(self, parts(picture), (2, [], []))
        self.assertIsNot(picture.seen, picture.hidden)

    def test_changing_the_lists_that_were_returned(self):
        picture = Picture(2, [(0, 0), (1, 0)], [(1, 1)])
        picture.seen.append((5, 5))
        picture.seen[0] = (8, 8)
        picture.hidden.clear()
        exactly(self, parts(picture), (2, [(0, 0), (1, 0)], [(1, 1)]))
        self.assertEqual((len(picture), (5, 5) in picture, (1, 1) in picture), (3, False, True))
        self.assertIsNot(picture.seen, picture.seen)
        self.assertIsNot(picture.hidden, picture.hidden)
        self.assertEqual(picture, Picture(2, [(0, 0), (1, 0)], [(1, 1)]))

    def test_sorted_lists_are_copied_too(self):
        seen, hidden = [(0, 0), (1, 0)], []
        picture = Picture(2, seen, hidden)
        self.assertIsNot(picture.seen, seen)
        self.assertIsNot(picture.hidden, hidden)

    def test_the_properties_cannot_be_assigned(self):
        picture = Picture(2, [(0, 0)], [(1, 1)])
        for name in ("size", "seen", "hidden"):
            with self.assertRaises(AttributeError):
                setattr(picture, name, [])
        exactly(self, parts(picture), (2, [(0, 0)], [(1, 1)]))


class Contents(unittest.TestCase):
    def test_in(self):
        picture = Picture(2, [(1, 0), (0, 0)], [(1, 1)])
        for place in [(1, 0), (0, 0), (1, 1)]:
            exactly(self, (place in picture, place not in picture), (True, False))
        for place in [(0, 1), (-1, 0), (10 ** 59, 0)]:
            exactly(self, (place in picture, place not in picture), (False, True))
        exactly(self, (0, 0, 0) in Picture(3, [], []), False)
        exactly(self, (1, 2, 3) in Picture(3, [], [(1, 2, 3)]), True)
        exactly(self, (-BIG, BIG) in Picture(2, [(-BIG, BIG)], []), True)

    def test_len_counts_both(self):
        for seen, hidden in [(0, 0), (3, 0), (0, 4), (2, 5)]:
            picture = Picture(2, [(k, 0) for k in range(seen)], [(k, 1) for k in range(hidden)])
            exactly(self, len(picture), seen + hidden)


class Equality(unittest.TestCase):
    def assert_unlike(self, one, other):
        exactly(self, (one == other, other == one, one != other), (False, False, True))

    def test_the_order_of_the_lists_does_not_count(self):
        one = Picture(2, [(0, 0), (1, 0)], [(5, 5), (4, 4)])
        other = Picture(2, [(1, 0), (0, 0)], [(4, 4), (5, 5)])
        exactly(self, (one == other, one != other, one == one), (True, False, True))

    def test_unlike_pictures(self):
        one = Picture(2, [(0, 0), (1, 0)], [(5, 5)])
        self.assert_unlike(one, Picture(2, [(0, 0)], [(5, 5)]))
        self.assert_unlike(one, Picture(2, [(0, 0), (1, 0)], []))
        self.assert_unlike(one, Picture(2, [(0, 0)], [(5, 5), (1, 0)]))
        self.assert_unlike(one, Picture(2, [(5, 5)], [(0, 0), (1, 0)]))
        self.assert_unlike(one, Picture(2, [(0, 0), (1, 1)], [(5, 5)]))
        self.assert_unlike(Picture(2, [(0, 0)], []), Picture(2, [], [(0, 0)]))
        self.assert_unlike(Picture(2, [], []), Picture(3, [], []))

    def test_equal_empty_pictures(self):
        exactly(self, Picture(3, [], []) == Picture(3, [], []), True)

    def test_nothing_else_is_equal(self):
        picture = Picture(2, [(0, 0)], [])
        for other in [None, 2, True, "2 seen (0,0) hidden", (2, [(0, 0)], []), [(0, 0)], {},
                      object(), Picture]:
            self.assert_unlike(picture, other)
        exactly(self, picture == mock.ANY, False)

    def test_a_likeness_with_the_same_attributes_is_not_equal(self):
        picture = Picture(2, [(0, 0)], [])
        likeness = mock.Mock(size=2, seen=[(0, 0)], hidden=[])
        self.assert_unlike(picture, likeness)


class Unchanged(unittest.TestCase):
    def test_no_call_changes_a_picture(self):
        picture = Picture(2, [(2, 1), (0, 0)], [(1, 1)])
        other = Picture(2, [(2, 1), (7, 7)], [(8, 8)])
        before = copy.deepcopy((parts(picture), parts(other)))
        picture.shifted((3, 3))
        picture.mapped([[0, 1], [1, 0]])
        picture.least()
        picture | other, picture - other, picture == other, (0, 0) in picture, len(picture)
        self.assertEqual((parts(picture), parts(other)), before)

    def test_in_place_signs_make_new_pictures(self):
        first = joined = lessened = Picture(2, [(2, 1)], [(1, 1)])
        joined |= Picture(2, [(7, 7)], [])
        lessened -= Picture(2, [(2, 1)], [])
        exactly(self, parts(first), (2, [(2, 1)], [(1, 1)]))
        exactly(self, parts(joined), (2, [(2, 1), (7, 7)], [(1, 1)]))
        exactly(self, parts(lessened), (2, [], [(1, 1)]))


if __name__ == "__main__":
    unittest.main()
