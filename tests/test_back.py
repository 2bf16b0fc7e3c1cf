import random
import unittest
from itertools import combinations
from math import gcd

from seenposts.back import best_look, fitting, judge_plan, look_plan, looks_needed, parting
from seenposts.errors import InvalidPlace, InvalidWord
from tests.helping import added, answers, box, exactly, refuses, wrong

FAR = 10 ** 60 - 1
SHIFTS = [(0, 1), (1, 1), (2, 1)]
PLACES = [(0, 0), (0, 1), (0, 2)]
# Calls with a list of shifts and one more list, with how an entry of it tells a place.
PLACED = [(best_look, "places"), (looks_needed, "places"), (look_plan, "places")]


def seen(place, shift):
    return gcd(*added(place, shift)) == 1


def least_looks(shifts, places):
    """The least number of looks in the worst case, by a search through all ways."""
    if len(shifts) == 1:
        return 0
    found = []
    for place in places:
        one = [shift for shift in shifts if seen(place, shift)]
        other = [shift for shift in shifts if not seen(place, shift)]
        if one and other:
            ways = [least_looks(one, places), least_looks(other, places)]
            if None not in ways:
                found.append(1 + max(ways))
    return min(found, default=None)


def walk(plan, shift):
    """Where a plan leads a shift, with the places that are looked at on the way."""
    places = []
    while plan is not None and plan[0] == "look":
        places.append(plan[1])
        plan = plan[2] if seen(plan[1], shift) else plan[3]
    return plan, places


def some_lists(pick, size, many, far=4):
    """Different shifts and some places, near the eye or far from it."""
    centre = tuple(pick.choice([0, FAR - far, -FAR + far]) for _ in range(size))
    near = box(tuple(n - far for n in centre), tuple(n + far for n in centre))
    return pick.sample(near, many), pick.sample(box((-2,) * size, (2,) * size), 8)


class Fitting(unittest.TestCase):
    def test_some_looks(self):
        for looks, expected in [
                ([((0, 1), "hidden")], [(0, 1), (2, 1)]), ([((0, 1), "seen")], [(1, 1)]),
                ([], SHIFTS), ([((0, 0), "seen")], SHIFTS), ([((0, 0), "hidden")], []),
                ([((0, 1), "hidden"), ((0, 2), "seen")], [(2, 1)]),
                ([((0, 1), "hidden"), ((0, 1), "seen")], [])]:
            answers(self, expected, fitting, shifts=SHIFTS, looks=looks)

    def test_the_shifts_keep_their_order(self):
        shifts = [(5, 5), (1, 4), (-3, 1), (0, 0), (1, 1), (2, 4)]
        answers(self, [(1, 4), (-3, 1), (1, 1)], fitting, shifts=shifts, looks=[((0, 0), "seen")])
        answers(self, [(5, 5), (0, 0), (2, 4)], fitting, shifts=shifts, looks=[((0, 0), "hidden")])

    def test_against_each_look(self):
        pick = random.Random(11)
        for size in (2, 3):
            for _ in range(60):
                shifts, places = some_lists(pick, size, 40)
                looks = [(place, pick.choice(["seen", "hidden"])) for place in places[:3]]
                expected = [shift for shift in shifts
                            if all(seen(place, shift) == (word == "seen") for place, word in looks)]
                answers(self, expected, fitting, shifts=shifts, looks=looks)

    def test_forty_shifts_and_forty_looks(self):
        shifts = [(FAR - 7 * n, -FAR + n * n) for n in range(40)]
        looks = [((FAR - n, 3 * n), "seen" if seen((FAR - n, 3 * n), shifts[17]) else "hidden")
                 for n in range(40)]
        expected = [shift for shift in shifts
                    if all(seen(place, shift) == (word == "seen") for place, word in looks)]
        exactly(self, (17 < len(shifts), shifts[17] in expected), (True, True))
        answers(self, expected, fitting, shifts=shifts, looks=looks)

    def test_the_list_is_new(self):
        shifts = list(SHIFTS)
        found = fitting(shifts, [])
        found.clear()
        exactly(self, shifts, SHIFTS)

    def test_without_shifts_nothing_is_checked(self):
        for looks in [[], [((), "x")], [((1,), "seen"), ((1, 2), "x")], [((0, 0), "seen")]]:
            answers(self, [], fitting, shifts=[], looks=looks)

    def test_wrong_looks_in_their_order(self):
        for looks, kind, value in [
                ([((1,), "x")], InvalidPlace, (1,)), ([((1, 2), "x")], InvalidWord, "x"),
                ([((1, 2), "seen"), ((1, 2, 3), "")], InvalidPlace, (1, 2, 3)),
                ([((1, 2), "open"), ((1,), "seen")], InvalidWord, "open"),
                ([((1, 2), "seen"), ((), "seen"), ((), "x")], InvalidPlace, ()),
                ([((1, 2), "hidden"), ((0,) * 6, "x")], InvalidPlace, (0,) * 6),
                ([((0, 0), "hidden"), ((0, 0), "Hidden")], InvalidWord, "Hidden")]:
            refuses(self, kind, value, fitting, shifts=SHIFTS, looks=looks)
        refuses(self, InvalidPlace, (1, 2), fitting, shifts=[(0, 0, 0)], looks=[((1, 2), "x")])


class WrongShifts(unittest.TestCase):
    def test_every_call(self):
        for shifts, shift in [
                ([(1,)], (1,)), ([()], ()), ([(0,) * 4], (0,) * 4), ([(0,) * 6, (1, 1)], (0,) * 6),
                ([(1, 1), (1,)], (1,)), ([(1, 1), (2, 2), (2, 2, 2), ()], (2, 2, 2)),
                ([(1, 1, 1), (2, 2)], (2, 2)), ([(1, 1), (1, 1), (0,) * 4], (0,) * 4),
                ([(1,), (1,)], (1,)), ([(0, 0), ()], ())]:
            for call, name in PLACED:
                for places in [[], [(1, 1)], [()], [(1,), (1, 1, 1)]]:
                    refuses(self, InvalidPlace, shift, call, **{"shifts": shifts, name: places})
            for looks in [[], [((1, 1), "seen")], [((), "x")]]:
                refuses(self, InvalidPlace, shift, fitting, shifts=shifts, looks=looks)
            for told in [None, ("shift", (1, 1)), ("look", (0, 0), None, None)]:
                refuses(self, InvalidPlace, shift, judge_plan, shifts=shifts, told=told)

    def test_wrong_places(self):
        for call, name in PLACED:
            for places, place in [([(1,)], (1,)), ([(0, 0), (), (1,)], ()),
                                  ([(0, 0), (1, 1), (1, 1, 1)], (1, 1, 1)), ([(0,) * 6], (0,) * 6)]:
                for shifts in [SHIFTS, SHIFTS[:1]]:
                    refuses(self, InvalidPlace, place, call, **{"shifts": shifts, name: places})
            refuses(self, InvalidPlace, (0, 0), call, **{"shifts": [(0, 0, 1)], name: [(0, 0)]})


class BestLook(unittest.TestCase):
    def test_some_lists(self):
        for shifts, places, expected in [
                (SHIFTS, PLACES, (0, 1)), (SHIFTS, PLACES[:1], (0, 0)), (SHIFTS, [], None),
                (SHIFTS, [(0, 0), (1, 0), (2, 0)], (0, 0)), ([(1, 1)], [(5, 5), (0, 0)], (5, 5)),
                (SHIFTS, PLACES[::-1], (0, 2)), (SHIFTS, PLACES * 2, (0, 1))]:
            answers(self, expected, best_look, shifts=shifts, places=places)

    def test_without_shifts_it_is_the_first_place(self):
        answers(self, (7, 7), best_look, shifts=[], places=[(7, 7), (0, 0)])
        answers(self, (7,), best_look, shifts=[], places=[(7,), (0, 0)])
        answers(self, None, best_look, shifts=[], places=[])

    def test_against_counts(self):
        pick = random.Random(12)
        for size in (2, 3):
            for many in (2, 3, 7, 40):
                for _ in range(20):
                    shifts, places = some_lists(pick, size, many)
                    numbers = [sum(seen(place, shift) for shift in shifts) for place in places]
                    numbers = [max(n, many - n) for n in numbers]
                    answers(self, places[numbers.index(min(numbers))], best_look,
                            shifts=shifts, places=places)

    def test_forty_places_of_many_digits(self):
        shifts = [(FAR - n, n) for n in range(40)]
        places = [(n - FAR, n * n - FAR) for n in range(40)]
        numbers = [sum(seen(place, shift) for shift in shifts) for place in places]
        numbers = [max(n, 40 - n) for n in numbers]
        answers(self, places[numbers.index(min(numbers))], best_look, shifts=shifts, places=places)


class Parting(unittest.TestCase):
    def check(self, one, other, low, high):
        found = [place for place in box(low, high) if seen(place, one) != seen(place, other)]
        answers(self, (found + [None])[0], parting, one=one, other=other, low=low, high=high)
        return found

    def test_some_shifts(self):
        answers(self, (0, 2), parting, one=(0, 1), other=(2, 1), low=(0, 0), high=(2, 2))
        answers(self, None, parting, one=(0, 1), other=(0, 1), low=(0, 0), high=(9, 9))
        answers(self, (0, 1), parting, one=(0, 1), other=(1, 1), low=(0, 0), high=(2, 2))
        answers(self, None, parting, one=(1, 1), other=(1, 3), low=(0, 0), high=(0, 0))

    def test_against_each_place(self):
        pick = random.Random(13)
        for size in (2, 3):
            for _ in range(50):
                (one, other), _ = some_lists(pick, size, 2)
                self.check(one, other, (0,) * size, (3,) * size)
                self.check(one, other, (-1,) * size, (0,) * size)

    def test_no_place_of_the_box_parts(self):
        exactly(self, self.check((0, 0), (6, 6), (2, 2), (2, 2)), [])
        exactly(self, self.check((0, 0), (30, 60), (1, 1), (1, 1)), [])
        self.check((5, -5), (5, -5), (-9, -9), (9, 9))

    def test_empty_boxes(self):
        for low, high in [((1, 1), (0, 1)), ((1, 1), (1, 0)), ((FAR, 0), (-FAR, 2000)),
                          ((0, 0), (FAR, -1))]:
            answers(self, None, parting, one=(0, 1), other=(2, 1), low=low, high=high)

    def test_three_thousand_places(self):
        both = [(0, 0), (2 * 3 * 5 * 7 * 11, 0)]
        self.check(both[0], both[1], (0, 0), (0, 2999))
        self.check((FAR, -FAR), (FAR, -FAR + 1), (-27, -27), (27, 26))
        self.check((FAR, 7, -FAR), (FAR, 7, -FAR), (FAR - 9, 0, -FAR), (FAR, 14, 18 - FAR))

    def test_wrong_places_in_their_order(self):
        good = {"one": (0, 1), "other": (2, 1), "low": (0, 0), "high": (1, 1)}
        names = list(good)
        for at, name in enumerate(names):
            for place in [(), (1,), (1, 1, 1, 1), (0,) * 6] + [(1, 1, 1)] * (at > 0):
                named = {some: good[some] for some in names[:at]}
                named[name] = place
                named.update({some: (9,) * 5 for some in names[at + 1:]})
                refuses(self, InvalidPlace, place, parting, **named)
                refuses(self, InvalidPlace, place, parting, **dict(good, **{name: place}))
        refuses(self, InvalidPlace, (2, 1), parting, one=(0, 1, 1), other=(2, 1), low=(0, 0),
                high=(1, 1))
        refuses(self, InvalidPlace, (0, 0), parting, one=(0, 1, 1), other=(2, 1, 1), low=(0, 0),
                high=(-1, -1))


class Looks(unittest.TestCase):
    def check(self, shifts, places):
        """Check the number of looks against a search, and each way of the plan."""
        most = least_looks(shifts, places)
        answers(self, most, looks_needed, shifts=shifts, places=places)
        plan = look_plan(shifts, places)
        exactly(self, look_plan(places=places, shifts=shifts), plan)
        if most is None:
            exactly(self, plan, None)
        else:
            for shift in shifts:
                end, looked = walk(plan, shift)
                exactly(self, end, ("shift", shift))
                self.assertLessEqual(len(looked), most)
                self.assertEqual(set(looked) - set(places), set())
            answers(self, True, judge_plan, shifts=shifts, told=plan)
        return most

    def test_some_lists(self):
        exactly(self, self.check(SHIFTS, PLACES), 2)
        exactly(self, self.check(SHIFTS, PLACES[:1]), None)
        exactly(self, self.check(SHIFTS[:2], PLACES), 1)
        exactly(self, self.check(SHIFTS, PLACES * 2), 2)

    def test_one_shift(self):
        for shift in [(0, 1), (0, 0), (FAR, -FAR), (1, 2, 3)]:
            exactly(self, self.check([shift], []), 0)
            exactly(self, self.check([shift], [(0,) * len(shift)]), 0)
            exactly(self, look_plan([shift], [shift]), ("shift", shift))

    def test_no_places(self):
        exactly(self, self.check(SHIFTS, []), None)

    def test_shifts_that_no_place_parts(self):
        exactly(self, self.check([(0, 0), (2, 2)], [(0, 0)]), None)
        exactly(self, self.check([(0, 0), (2, 2), (0, 1)], [(0, 0), (0, 2)]), None)
        exactly(self, self.check([(1, 1), (1, 3), (3, 1), (3, 3)], [(0, 0), (2, 2), (1, 1)]), None)

    def test_few_shifts_and_places(self):
        near = box((0, 0), (2, 2))
        found = {}
        for shifts in combinations(near, 3):
            for places in list(combinations(near, 2))[::5] + [near[:8]]:
                most = self.check(list(shifts), list(places))
                found[most] = True
        self.assertEqual(set(found), {None, 2})

    def test_eight_shifts_and_eight_places(self):
        pick = random.Random(14)
        found = {}
        for size in (2, 3):
            for many in (4, 5, 6, 7, 8):
                for _ in range(12):
                    shifts, places = some_lists(pick, size, many)
                    found[self.check(shifts, places)] = True
        self.assertTrue({None, 3, 4} <= set(found))

    def test_places_that_part_off_one_shift_alone(self):
        shifts, places = [(n, 0) for n in range(8)], [(-n, 11) for n in range(8)]
        for place, shift in zip(places, shifts):
            exactly(self, [seen(place, some) for some in shifts], [some != shift for some in shifts])
        exactly(self, self.check(shifts, places), 7)
        exactly(self, self.check(shifts, places[1:]), 7)
        exactly(self, self.check(shifts, places[2:]), None)
        exactly(self, self.check(shifts[:5], places), 4)

    def test_the_first_good_look_need_not_be_the_best_one_alone(self):
        pick = random.Random(15)
        for _ in range(40):
            shifts, places = some_lists(pick, 2, 6, far=2)
            self.check(shifts, places[:5])
            self.check(shifts, [best_look(shifts, places)])


class Judging(unittest.TestCase):
    def plans(self, pick, depth, shifts, places):
        """A plan by chance, whatever it leads to."""
        if depth == 0 or pick.random() < 0.2:
            return pick.choice([("shift", shift) for shift in shifts] + [None])
        return ("look", pick.choice(places), self.plans(pick, depth - 1, shifts, places),
                self.plans(pick, depth - 1, shifts, places))

    def test_against_a_walk_for_each_shift(self):
        pick = random.Random(16)
        right = 0
        for _ in range(1500):
            shifts, places = some_lists(pick, 2, pick.choice([1, 1, 2, 3]), far=2)
            told = self.plans(pick, 3, shifts, places)
            expected = all(walk(told, shift)[0] == ("shift", shift) for shift in shifts)
            right += expected
            answers(self, expected, judge_plan, shifts=shifts, told=told)
        self.assertGreater(right, 50)

    def test_some_plans(self):
        good = ("look", (0, 1), ("shift", (1, 1)),
                ("look", (0, 2), ("shift", (2, 1)), ("shift", (0, 1))))
        for told, expected in [
                (good, True), (("shift", (0, 1)), False), (None, False),
                (("look", (0, 1), good[3], good[2]), False), (("look", (0, 0), good, None), True),
                (("look", (0, 0), None, good), False), (("look", (0, 1), good, good), True),
                (("look", (0, 1), ("shift", (1, 1)), None), False),
                (("look", (FAR, FAR), good, good), True), (good[:3] + (good,), True),
                (good[:2] + (("shift", (2, 1)),) + good[3:], False)]:
            answers(self, expected, judge_plan, shifts=SHIFTS, told=told)

    def test_shifts_that_do_not_come_need_not_be_led(self):
        answers(self, True, judge_plan, shifts=[(1, 1)],
                told=("look", (0, 1), ("shift", (1, 1)), None))
        answers(self, True, judge_plan, shifts=[(0, 1)],
                told=("look", (0, 1), ("shift", (7, 7)), ("shift", (0, 1))))

    def test_without_shifts(self):
        for told in [None, ("shift", (1, 1)), ("look", (), None, None)]:
            answers(self, True, judge_plan, shifts=[], told=told)

    def test_twelve_looks_one_behind_the_other(self):
        for size in (2, 3):
            shift = (FAR - 5,) + (7,) * (size - 1)
            told, wrong_one = ("shift", shift), ("shift", (FAR,) + shift[1:])
            for number in range(12):
                place = (number,) * size
                parts = (told, None) if seen(place, shift) else (None, told)
                told = ("look", place) + parts
                parts = (wrong_one, told) if seen(place, shift) else (told, wrong_one)
                wrong_one = ("look", place) + parts
            answers(self, True, judge_plan, shifts=[shift], told=told)
            answers(self, False, judge_plan, shifts=[shift], told=wrong_one)

    def test_places_and_shifts_of_another_size_lead_nowhere(self):
        end = ("shift", (0, 1))
        for place in [(), (1,), (0, 0, 0), (1,) * 6]:
            answers(self, False, judge_plan, shifts=[(0, 1)], told=("look", place, end, end))
        answers(self, False, judge_plan, shifts=[(0, 1)], told=("shift", (0, 1, 0)))
        answers(self, True, judge_plan, shifts=[(0, 1)],
                told=("look", (0, 0), end, ("look", (1,), end, end)))

    def test_forty_shifts(self):
        shifts = [(n, 1) for n in range(40)]
        answers(self, False, judge_plan, shifts=shifts, told=("shift", (0, 1)))
        told = None
        for n in range(12):
            told = ("look", (0, n), ("shift", (n, 1)), told)
        answers(self, False, judge_plan, shifts=shifts, told=told)
        wrong(self, InvalidPlace, (1,), judge_plan, shifts + [(1,)], told)


if __name__ == "__main__":
    unittest.main()
