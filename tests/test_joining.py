import unittest

from seenposts.errors import Conflict, InvalidSize
from seenposts.pictures import Picture
from tests.helping import exactly, wrong

BIG = 10 ** 40 - 1


def parts(picture):
    return (picture.size, picture.seen, picture.hidden)


def join(one, other):
    return one | other


def lessen(one, other):
    return one - other


class Joining(unittest.TestCase):
    def test_places_of_both_ascending(self):
        one = Picture(2, [(3, 3), (0, 0)], [(9, 9)])
        other = Picture(2, [(1, 1), (0, 0)], [(4, 4), (9, 9)])
        expected = (2, [(0, 0), (1, 1), (3, 3)], [(4, 4), (9, 9)])
        exactly(self, [parts(one | other), parts(other | one)], [expected, expected])
        exactly(self, len(one | other), 5)

    def test_with_itself_and_with_a_picture_without_places(self):
        one = Picture(3, [(3, 3, 3)], [(9, 9, 9)])
        none = Picture(3, [], [])
        for found in (one | one, one | none, none | one):
            exactly(self, parts(found), parts(one))
        exactly(self, parts(none | none), (3, [], []))

    def test_places_can_be_asked_of_the_result(self):
        found = Picture(2, [(3, 3)], [(9, 9)]) | Picture(2, [], [(1, 1)])
        exactly(self, [(3, 3) in found, (9, 9) in found, (1, 1) in found, (0, 0) in found],
                [True, True, True, False])
        exactly(self, found == Picture(2, [(3, 3)], [(1, 1), (9, 9)]), True)

    def test_unlike_sizes(self):
        plane, space = Picture(2, [(0, 0)], []), Picture(3, [(0, 0, 0)], [])
        wrong(self, InvalidSize, 3, join, plane, space)
        wrong(self, InvalidSize, 2, join, space, plane)
        wrong(self, InvalidSize, 3, join, Picture(2, [], []), Picture(3, [], []))

    def test_the_first_conflict_in_ascending_order(self):
        one = Picture(2, [(5, 5), (2, 0)], [(1, 7), (8, 8)])
        other = Picture(2, [(8, 8), (1, 7), (0, 0)], [(2, 0), (5, 5), (-3, 0)])
        wrong(self, Conflict, (1, 7), join, one, other)
        wrong(self, Conflict, (1, 7), join, other, one)

    def test_conflicts_of_each_kind(self):
        seen, hidden = Picture(2, [(-1, 4), (0, 0)], []), Picture(2, [], [(0, 1), (-1, 4)])
        wrong(self, Conflict, (-1, 4), join, seen, hidden)
        wrong(self, Conflict, (-1, 4), join, hidden, seen)
        wrong(self, Conflict, (1, 2, 3), join, Picture(3, [(1, 2, 3)], []),
              Picture(3, [], [(1, 2, 3)]))

    def test_an_error_changes_nothing(self):
        one, other = Picture(2, [(1, 1), (2, 2)], []), Picture(2, [(3, 3)], [(2, 2)])
        wrong(self, Conflict, (2, 2), join, one, other)
        exactly(self, [parts(one), parts(other)],
                [(2, [(1, 1), (2, 2)], []), (2, [(3, 3)], [(2, 2)])])

    def test_many_places_and_the_result_joined_again(self):
        whole = Picture(2, [], [])
        for part in range(5):
            seen = [(BIG - k, part) for k in range(200)]
            hidden = [(k - BIG, part) for k in range(200)]
            whole = Picture(2, seen, hidden) | whole
        exactly(self, [len(whole), len(whole | whole), len(whole - whole)], [2000, 2000, 0])
        exactly(self, whole.seen[:2], [(BIG - 199, 0), (BIG - 199, 1)])
        exactly(self, whole.shifted((1, 1)).least() == whole.least(), True)
        exactly(self, whole.mapped([[0, 1], [1, 0]]).seen[0], (0, BIG - 199))


class Lessening(unittest.TestCase):
    def test_places_go_however_they_stand_in_the_other_one(self):
        one = Picture(2, [(3, 3), (0, 0), (1, 1)], [(9, 9), (8, 8), (7, 7)])
        other = Picture(2, [(0, 0), (9, 9), (50, 50)], [(1, 1), (8, 8), (60, 60)])
        exactly(self, parts(one - other), (2, [(3, 3)], [(7, 7)]))
        exactly(self, parts(other - one), (2, [(50, 50)], [(60, 60)]))

    def test_the_rest_is_ascending_and_no_longer_told(self):
        found = Picture(3, [(3, 3, 3), (2, 2, 2), (1, 1, 1)], []) - Picture(3, [], [(2, 2, 2)])
        exactly(self, parts(found), (3, [(1, 1, 1), (3, 3, 3)], []))
        exactly(self, [len(found), (2, 2, 2) in found, (3, 3, 3) in found], [2, False, True])

    def test_with_itself_and_without_places(self):
        one = Picture(2, [(3, 3)], [(9, 9)])
        none = Picture(2, [], [])
        exactly(self, [parts(one - one), parts(one - none), parts(none - one)],
                [parts(none), parts(one), parts(none)])

    def test_unlike_sizes(self):
        plane, space = Picture(2, [(0, 0)], []), Picture(3, [(0, 0, 0)], [])
        wrong(self, InvalidSize, 3, lessen, plane, space)
        wrong(self, InvalidSize, 2, lessen, space, plane)


if __name__ == "__main__":
    unittest.main()
