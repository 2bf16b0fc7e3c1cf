import unittest
from itertools import combinations, product

from seenposts.boxes import judge_keys, key_list, most_seen, number_of_sets, seen_lot
from seenposts.errors import InvalidNumber, InvalidSize
from seenposts.shows import is_possible
from tests.helping import answers, bars, box, exactly, refuses, remain

CALLS = [(most_seen, {}), (seen_lot, {}), (key_list, {}), (number_of_sets, {}),
         (judge_keys, {"told": [(2, (1, 1))], "many": 3})]
LONG = 10 ** 30
SMALL = [[1, 1], [1, 2], [2, 1], [2, 2], [1, 12], [2, 3], [3, 2], [3, 3], [2, 6], [6, 2], [3, 4],
         [4, 3], [2, 5], [1, 1, 1], [1, 1, 12], [1, 3, 4], [2, 2, 2], [2, 2, 3], [2, 3, 2],
         [3, 2, 2], [2, 1, 6], [1, 2, 2]]
# All boxes that are gone through, but for the order of the sides.
ALL = ([[a, b] for a in range(1, 7) for b in range(a, 7)]
       + [[a, b, c] for a in range(1, 5) for b in range(a, 5) for c in range(b, 5)])


def places_of(sides):
    return box((0,) * len(sides), tuple(side - 1 for side in sides))


def primes_of(sides):
    return [prime for prime in (2, 3, 5, 7) if prime <= min(sides)]


def possible(places, size):
    return not any(bars(places, prime, size) for prime in (2, 3, 5, 7))


def free(places, keys):
    """The places with none of the remainders, one by one."""
    return [place for place in places
            if all(remain(place, prime) != told for prime, told in keys)]


def all_keys(sides):
    """All lists of keys of a box."""
    found = [[(prime, told) for told in product(range(prime), repeat=len(sides))]
             for prime in primes_of(sides)]
    return [list(keys) for keys in product(*found)]


class Most(unittest.TestCase):
    def test_some_boxes(self):
        for sides, expected in [([2, 2], 3), ([3, 3], 8), ([1, 6], 6), ([2, 2, 2], 7), ([1, 1], 1),
                                ([2, 3], 5), ([4, 4], 12), ([1, 1, 1], 1), ([6, 6], 24),
                                ([4, 4, 4], 56), ([2, LONG], 15 * 10 ** 29)]:
            answers(self, expected, most_seen, sides=sides)

    def test_small_boxes_against_all_sets_of_their_places(self):
        for sides in SMALL:
            places = places_of(sides)
            sets = [some for many in range(len(places) + 1)
                    for some in combinations(places, many) if possible(some, len(sides))]
            answers(self, max(map(len, sets)), most_seen, sides=sides)
            answers(self, len(sets), number_of_sets, sides=sides)

    def test_all_boxes_that_are_gone_through_against_all_keys(self):
        for sides in ALL:
            places = places_of(sides)
            expected = max(len(free(places, keys)) for keys in all_keys(sides))
            answers(self, expected, most_seen, sides=sides)
            answers(self, expected, most_seen, sides=sides[::-1])

    def test_a_side_of_one(self):
        for sides in [[1, 6], [6, 1], [1, LONG], [LONG, 1, 3], [LONG, LONG, 1], [1, 1, LONG - 1]]:
            expected = 1
            for side in sides:
                expected *= side
            answers(self, expected, most_seen, sides=sides)
            answers(self, [], key_list, sides=sides)

    def test_a_very_long_side(self):
        # The remainders by all primes come back after 30 places, those by 2 and 3 after 6.
        for sides, period in [([2], 2), ([3], 6), ([4], 6), ([5], 30), ([6], 30), ([2, 3], 2),
                              ([3, 3], 6), ([4, 4], 6)]:
            for rest in (0, 1, 4, 7, period - 1):
                rest %= period
                whole, part = places_of(sides + [period]), places_of(sides + [rest])
                times = LONG // period - 1
                expected = max(times * len(free(whole, keys)) + len(free(part, keys))
                               for keys in all_keys(sides + [period]))
                answers(self, expected, most_seen, sides=sides + [times * period + rest])
                answers(self, expected, most_seen, sides=[times * period + rest] + sides)

    def test_several_very_long_sides(self):
        for least in (2, 3):
            sides = [6 * 10 ** 28, least, 6 * 10 ** 27]
            whole = places_of([6, least, 6])
            expected = max(len(free(whole, keys)) for keys in all_keys([6, least, 6])) * 10 ** 55
            answers(self, expected, most_seen, sides=sides)

    def test_mirrored_and_turned_boxes(self):
        for sides in [[3, 5], [5, 3], [4, 6], [2, 3, 4], [3, 4, 2], [4, 2, 3]]:
            exactly(self, most_seen(sides), most_seen(sorted(sides)))


class Lot(unittest.TestCase):
    def test_all_boxes_that_are_gone_through(self):
        for sides in ALL + [[6, 2], [5, 1], [4, 3, 2], [4, 1, 4], [3, 3, 1]]:
            before = list(sides)
            for picture in (seen_lot(sides), seen_lot(sides=sides)):
                exactly(self, (picture.size, picture.hidden), (len(sides), []))
                exactly(self, len(picture), most_seen(sides))
                self.assertEqual(set(picture.seen) - set(places_of(sides)), set())
                exactly(self, possible(picture.seen, len(sides)), True)
                exactly(self, is_possible(picture), True)
            exactly(self, sides, before)

    def test_what_it_returns_may_be_changed(self):
        seen_lot([3, 3]).seen.clear()
        exactly(self, len(seen_lot([3, 3])), 8)


class Keys(unittest.TestCase):
    def check(self, sides):
        """Check a list of keys, apart from how many places have none of their remainders."""
        before = list(sides)
        found = key_list(sides)
        exactly(self, [prime for prime, _ in found], primes_of(sides))
        for key in found:
            exactly(self, (type(key), type(key[1]), len(key)), (tuple, tuple, 2))
            exactly(self, [0 <= number < key[0] for number in key[1]], [True] * len(sides))
        exactly(self, judge_keys(sides, found, most_seen(sides)), True)
        exactly(self, key_list(sides=sides), found)
        exactly(self, sides, before)
        return found

    def test_all_boxes_that_are_gone_through(self):
        for sides in ALL + [[5, 2], [6, 4], [4, 2, 3]]:
            found = self.check(sides)
            exactly(self, len(free(places_of(sides), found)), most_seen(sides))

    def test_very_long_sides(self):
        for sides in [[2, LONG], [LONG, 3], [6, LONG], [LONG - 1, 5], [4, 4, LONG - 7],
                      [LONG, LONG, 4], [3, LONG, 2], [LONG, 1]]:
            self.check(sides)

    def test_exactly_these(self):
        answers(self, [(2, (1, 1)), (3, (1, 1))], key_list, sides=[3, 3])
        answers(self, [], key_list, sides=[1, 4])
        answers(self, [], key_list, sides=[4, 4, 1])

    def test_the_list_is_new(self):
        key_list([3, 3]).clear()
        answers(self, [(2, (1, 1)), (3, (1, 1))], key_list, sides=[3, 3])


class Judging(unittest.TestCase):
    def test_every_list_of_keys_of_small_boxes(self):
        for sides in [[2, 2], [3, 3], [2, 5], [4, 3], [2, 2, 4], [3, 3, 3]]:
            places = places_of(sides)
            for keys in all_keys(sides)[::3]:
                many = len(free(places, keys))
                answers(self, True, judge_keys, sides=sides, told=keys, many=many)
                answers(self, False, judge_keys, sides=sides, told=keys, many=many + 1)
                answers(self, False, judge_keys, sides=sides, told=keys, many=many - 1)

    def test_five_too(self):
        for sides in [[5, 5], [6, 5], [5, 6], [6, 6]]:
            places = places_of(sides)
            for keys in all_keys(sides)[::37]:
                many = len(free(places, keys))
                answers(self, True, judge_keys, sides=sides, told=keys, many=many)
                answers(self, False, judge_keys, sides=sides, told=keys, many=many + 1)

    def test_boxes_that_no_prime_bars(self):
        answers(self, True, judge_keys, sides=[1, LONG], told=[], many=LONG)
        answers(self, False, judge_keys, sides=[1, LONG], told=[], many=LONG - 1)
        answers(self, False, judge_keys, sides=[1, 6], told=[(2, (0, 0))], many=3)
        answers(self, True, judge_keys, sides=[7, 1, 2], told=[], many=14)

    def test_the_right_primes_in_their_order(self):
        two, three, five = (2, (1, 1)), (3, (1, 1)), (5, (1, 1))
        answers(self, True, judge_keys, sides=[3, 3], told=[two, three], many=8)
        for told in [[], [two], [three], [three, two], [two, three, five], [two, two, three],
                     [two, three, three], [two, (4, (1, 1))], [(2, (1, 1)), (3, (0, 0)), three],
                     [(1, (0, 0)), two, three], [two, three] * 30, [(-2, (1, 1)), three]]:
            for many in (7, 8, 9):
                answers(self, False, judge_keys, sides=[3, 3], told=told, many=many)

    def test_remainders_by_the_prime_alone(self):
        answers(self, True, judge_keys, sides=[2, 3], told=[(2, (1, 1))], many=5)
        for told in [(3, 1), (1, 3), (-1, 1), (1, -1), (2, 1), (1, 2), (1,), (), (1, 1, 1),
                     (1, 1, 0), (10 ** 61 + 1, 1), (-2, 0)]:
            for many in (4, 5, 6):
                answers(self, False, judge_keys, sides=[2, 3], told=[(2, told)], many=many)
        for told in [(1, 1), (1, 1, 2), (1, 1, -1), (0, 0, 0, 0)]:
            for many in (7, 8):
                answers(self, False, judge_keys, sides=[2, 2, 2], told=[(2, told)], many=many)

    def test_very_long_sides(self):
        for told, many in [((0, 0), 15 * 10 ** 29), ((1, 1), 15 * 10 ** 29)]:
            answers(self, True, judge_keys, sides=[2, LONG], told=[(2, told)], many=many)
            answers(self, False, judge_keys, sides=[2, LONG], told=[(2, told)], many=many + 1)
        sides = [2, LONG - 1]
        answers(self, True, judge_keys, sides=sides, told=[(2, (0, 1))], many=15 * 10 ** 29 - 1)
        answers(self, True, judge_keys, sides=sides, told=[(2, (0, 0))], many=15 * 10 ** 29 - 2)
        keys = [(2, (1, 0)), (3, (2, 1)), (5, (0, 4))]
        per = len(free(places_of([6, 30]), keys))
        rest = len(free(places_of([6, 10]), keys))
        answers(self, True, judge_keys, sides=[6, LONG], told=keys,
                many=LONG // 30 * per + rest)

    def test_other_numbers(self):
        for many in (0, -7, 10 ** 61, -10 ** 61):
            answers(self, False, judge_keys, sides=[3, 3], told=[(2, (1, 1)), (3, (1, 1))],
                    many=many)


class Sets(unittest.TestCase):
    def test_some_boxes(self):
        for sides, expected in [([2, 2], 15), ([1, 12], 4096), ([2, 2, 2], 255), ([1, 1], 2),
                                ([1, 1, 1], 2), ([12, 1, 1], 4096)]:
            answers(self, expected, number_of_sets, sides=sides)

    def test_as_many_with_the_sides_in_another_order(self):
        for sides in [[3, 4], [2, 6], [2, 5], [2, 2, 3], [1, 3, 4]]:
            exactly(self, number_of_sets(sides), number_of_sets(sides[::-1]))


class WrongSides(unittest.TestCase):
    def test_sizes(self):
        for sides in [[], [2], [2, 2, 2, 2], [1] * 5, [1] * 6, [0], [0, 0, 0, 0], [10 ** 59] * 6]:
            for call, more in CALLS:
                refuses(self, InvalidSize, len(sides), call, sides=sides, **more)

    def test_sides(self):
        far = 10 ** 60 - 1
        for sides, side in [([0, 2], 0), ([2, 0], 0), ([-1, 0], -1), ([0, -1], 0), ([1, 1, 0], 0),
                            ([far, -far], -far), ([-far, far, 0], -far), ([far, far, 0], 0),
                            ([0, 0], 0), ([2, -5, -7], -5)]:
            for call, more in CALLS:
                refuses(self, InvalidNumber, side, call, sides=sides, **more)

    def test_they_are_wrong_whatever_else_is_passed(self):
        refuses(self, InvalidNumber, 0, judge_keys, sides=[0, 2], told=[], many=-1)
        refuses(self, InvalidSize, 1, judge_keys, sides=[2], told=[(2, (0,))], many=1)


if __name__ == "__main__":
    unittest.main()
