import copy
import random
import unittest
from math import gcd

from seenposts.errors import InvalidNumber, InvalidPlace, InvalidStep
from seenposts.lines import Line
from seenposts.pictures import Picture
from seenposts.places import is_seen
from tests.helping import answers, around, exactly, refuses, wrong

FAR = 10 ** 60 - 1
LONG = 10 ** 40 - 1

# Lines with the start, the step and the number, told by hand.
TOLD = [((0, 6), (1, 1), 6), ((0, 1), (1, 0), 1), ((3, 30), (1, 0), 30), ((30, 3), (0, -1), 30),
        ((-7, 4), (2, 3), 29), ((0, 0, 2), (1, 0, 0), 2), ((5, 12, 18), (1, 0, 0), 6),
        ((1, 7, 1), (0, 1, 0), 1), ((2, 4, 6), (2, 4, 7), 2), ((5, 5), (2, 3), 5),
        ((10 ** 50, 210), (-1, 0), 210), ((0, 0, 9), (3, 2, 0), 9), ((1, 1), (-3, 5), 8)]
# Lines through the eye, with the position of the eye.
THROUGH = [((2, 2), (1, 1), -2), ((0, 0), (1, 0), 0), ((0, 5), (0, -1), 5), ((-6, 9), (2, -3), 3),
           ((4, -8, 12), (1, -2, 3), -4), ((0, 0, 0), (0, 0, 1), 0), ((1, 0, 0), (-1, 0, 0), 1)]
# The longest row of neighbouring numbers that have a divisor in common with the product of the
# first primes, as Jacobsthal's function tells it.
DARKEST = [(2, 1), (6, 3), (30, 5), (210, 9), (2310, 13), (30030, 21)]


def seen_on(line, low, high):
    """The positions of the seen posts, one by one."""
    return [t for t in range(low, high + 1) if gcd(*line.post(t)) == 1]


def some_lines():
    """All told lines and many random ones with small numbers, on both sides of the eye."""
    found = [Line(start, step) for start, step, _ in TOLD]
    pick = random.Random(8)
    while len(found) < 150:
        size, far = pick.choice((2, 3)), pick.choice((4, 9, 40))
        start = tuple(pick.randrange(-far, far + 1) for _ in range(size))
        step = tuple(pick.randrange(-5, 6) for _ in range(size))
        if gcd(*step) == 1:
            line = Line(start, step)
            if 0 < line.number <= 250:
                found.append(line)
    return found


class Making(unittest.TestCase):
    def test_start_step_and_number(self):
        for start, step, number in TOLD + [(start, step, 0) for start, step, _ in THROUGH]:
            for line in (Line(start, step), Line(step=step, start=start)):
                exactly(self, (line.start, line.step, line.number), (start, step, number))

    def test_the_number_is_the_divisor_of_all_differences(self):
        for line in some_lines():
            a, b = line.start, line.step
            found = [a[i] * b[j] - a[j] * b[i] for i in range(len(a)) for j in range(len(a))]
            exactly(self, line.number, gcd(*found))

    def test_many_digits(self):
        line = Line((FAR, 10 ** 59), (10 ** 59, 10 ** 59 - 1))
        exactly(self, line.number, abs(FAR * (10 ** 59 - 1) - 10 ** 118))
        line = Line((-FAR, FAR - 1, 0), (0, 1, FAR))
        exactly(self, (line.start, line.step), ((-FAR, FAR - 1, 0), (0, 1, FAR)))
        exactly(self, line.number, gcd(FAR, FAR * FAR, (FAR - 1) * FAR))

    def test_wrong_starts(self):
        for start in [(), (1,), (0, 0, 0, 0), (1,) * 6]:
            for step in [(1, 1), (0, 0), (), start, (2, 2, 2)]:
                refuses(self, InvalidPlace, start, Line, start=start, step=step)

    def test_wrong_steps(self):
        for start, steps in [((0, 1), [(), (1,), (1, 1, 1), (0, 0, 0), (1,) * 6]),
                             ((0, 1, 2), [(), (1,), (1, 1), (0, 0), (2, 2), (1, 0, 0, 0)])]:
            for step in steps:
                refuses(self, InvalidPlace, step, Line, start=start, step=step)

    def test_steps_with_a_common_divisor(self):
        for start, step in [((0, 1), (0, 0)), ((0, 1), (2, 0)), ((0, 0), (-2, 4)), ((5, 5), (0, -3)),
                            ((1, 1, 1), (0, 0, 0)), ((1, 1, 1), (6, -10, 4)),
                            ((1, 1), (7 * 10 ** 58, 14)), ((1, 1), (FAR, FAR))]:
            refuses(self, InvalidStep, step, Line, start=start, step=step)


class Posts(unittest.TestCase):
    def test_places(self):
        for start, step, _ in TOLD + THROUGH:
            line = Line(start, step)
            for t in [0, 1, -1, 5, -8, LONG, -LONG]:
                expected = tuple(a + t * b for a, b in zip(start, step))
                answers(self, expected, line.post, t=t)

    def test_seen_and_hidden(self):
        for line in some_lines() + [Line(start, step) for start, step, _ in THROUGH]:
            for t in range(-20, 21):
                answers(self, gcd(*line.post(t)) == 1, line.seen_at, t=t)

    def test_far_from_the_start(self):
        for line in some_lines()[::7]:
            for t in list(range(LONG - 12, LONG + 1)) + list(range(-LONG, 12 - LONG)):
                answers(self, is_seen(line.post(t)), line.seen_at, t=t)

    def test_starts_and_steps_of_many_digits(self):
        pick = random.Random(4)
        for size in (2, 3):
            for _ in range(60):
                start = tuple(pick.randrange(-FAR, FAR) for _ in range(size))
                step = tuple(pick.randrange(-FAR, FAR) for _ in range(size))
                if gcd(*step) == 1:
                    line = Line(start, step)
                    for t in [0, 1, -1, 6, pick.randrange(LONG), -pick.randrange(LONG)]:
                        answers(self, gcd(*line.post(t)) == 1, line.seen_at, t=t)

    def test_through_the_eye_just_two_posts_are_seen(self):
        for start, step, eye in THROUGH:
            line = Line(start, step)
            exactly(self, line.post(eye), (0,) * len(start))
            exactly(self, [t for t in range(-50, 51) if line.seen_at(t)], [eye - 1, eye + 1])
            exactly(self, [line.seen_at(t) for t in (LONG, -LONG)], [False, False])


class Dark(unittest.TestCase):
    def test_some_lines(self):
        for start, step, expected in [
                ((0, 6), (1, 1), [(2, 0), (3, 0)]), ((1, 6), (1, 1), [(5, 4)]),
                ((0, 0, 2), (1, 0, 0), [(2, 0)]), ((5, 12, 18), (1, 0, 0), [(2, 1), (3, 1)]),
                ((0, 1), (1, 0), []), ((-7, 4), (2, 3), [(29, 18)]), ((1, 1), (-3, 5), [(2, 1)]),
                ((0, 0, 9), (3, 2, 0), [(3, 0)]), ((3, 30), (0, 1), [(3, 0)]),
                ((3, 30030), (1, 0), [(2, 1), (3, 0), (5, 2), (7, 4), (11, 8), (13, 10)])]:
            answers(self, expected, Line(start, step).dark)

    def test_each_prime_leads_to_hidden_posts_alone(self):
        for line in some_lines():
            primes = [p for p in range(2, line.number + 1)
                      if line.number % p == 0 and all(p % q for q in range(2, p))]
            exactly(self, [prime for prime, _ in line.dark()], primes)
            for prime, rest in line.dark():
                exactly(self, [t for t in range(prime) if all(n % prime == 0 for n in line.post(t))],
                        [rest])
            for t in range(-9, 10):
                exactly(self, any(t % p == rest for p, rest in line.dark()), not line.seen_at(t))

    def test_great_primes_and_powers(self):
        answers(self, [(30029, 30029 - 5)], Line((5, 30029), (1, 0)).dark)
        answers(self, [(2, 0)], Line((0, 2 ** 14), (1, 0)).dark)
        answers(self, [(173, 172)], Line((1, 173 ** 2), (1, 0)).dark)
        answers(self, [(2, 1), (15013, 15012)], Line((1, 30026), (1, 0)).dark)

    def test_through_the_eye(self):
        for start, step, _ in THROUGH:
            answers(self, [], Line(start, step).dark)

    def test_the_list_is_new(self):
        line = Line((0, 6), (1, 1))
        line.dark().clear()
        answers(self, [(2, 0), (3, 0)], line.dark)


class Total(unittest.TestCase):
    def test_against_a_count_one_by_one(self):
        for line in some_lines() + [Line(start, step) for start, step, _ in THROUGH]:
            for low, high in [(0, 0), (1, 1), (-1, -1), (-30, 30), (1, 25), (-40, -3), (7, 8)]:
                answers(self, len(seen_on(line, low, high)), line.total, low=low, high=high)

    def test_far_from_the_start(self):
        for line in some_lines()[::5]:
            for low, high in [(LONG - 20, LONG), (-LONG, 30 - LONG)]:
                answers(self, len(seen_on(line, low, high)), line.total, low=low, high=high)

    def test_long_ranges(self):
        for line in some_lines()[::5]:
            period = line.number
            per = len(seen_on(line, 0, period - 1))
            times = LONG // period - 1
            answers(self, per * times, line.total, low=0, high=times * period - 1)
            answers(self, per * times, line.total, low=-times * period, high=-1)
            answers(self, 2 * per * times + len(seen_on(line, 0, 7)), line.total,
                    low=-times * period, high=times * period + 7)

    def test_high_is_less_than_low(self):
        for start, step, _ in TOLD + THROUGH:
            line = Line(start, step)
            for low, high in [(1, 0), (0, -1), (5, -5), (LONG, -LONG), (-3, -4), (LONG, LONG - 1)]:
                answers(self, 0, line.total, low=low, high=high)

    def test_the_number_one(self):
        line = Line((4, 1), (1, 0))
        for low, high in [(0, 0), (-5, 5), (-LONG, LONG), (LONG, LONG)]:
            answers(self, high - low + 1, line.total, low=low, high=high)

    def test_through_the_eye(self):
        for start, step, eye in THROUGH:
            line = Line(start, step)
            for low, high, expected in [(-LONG, LONG, 2), (eye, eye, 0), (eye, LONG, 1),
                                        (-LONG, eye, 1), (eye - 1, eye + 1, 2), (eye + 1, eye + 1, 1),
                                        (eye - 1, eye - 1, 1), (eye + 2, LONG, 0)]:
                answers(self, expected, line.total, low=low, high=high)

    def test_the_greatest_numbers(self):
        for number in (30030, 30029, 30028, 2 ** 14):
            line = Line((5, number), (1, 0))
            per = len([t for t in range(number) if gcd(t, number) == 1])
            answers(self, per * 10 ** 30, line.total, low=1, high=number * 10 ** 30)


class At(unittest.TestCase):
    def test_against_a_count_one_by_one(self):
        for line in some_lines():
            seen = seen_on(line, 0, 60)
            for k, t in list(enumerate(seen)):
                answers(self, t, line.at, k=k)

    def test_numbers_of_many_digits(self):
        for line in some_lines()[::4] + [Line((17, number), (1, 0)) for number in (30030, 30029)]:
            for k in (LONG, LONG - 1, 10 ** 30, 10 ** 39 + 7):
                t = line.at(k)
                answers(self, t, line.at, k=k)
                exactly(self, (line.seen_at(t), line.total(0, t)), (True, k + 1))

    def test_each_number_of_two_periods(self):
        line = Line((8, 210), (1, 0))
        seen = seen_on(line, 0, 419)
        exactly(self, [line.at(k) for k in range(96)], seen)
        exactly(self, [line.at(k + 48 * 10 ** 35) for k in range(48)],
                [t + 210 * 10 ** 35 for t in seen[:48]])

    def test_the_number_one(self):
        for k in (0, 1, 99, LONG):
            answers(self, k, Line((0, 1), (1, 0)).at, k=k)

    def test_below_zero(self):
        for start, step, _ in TOLD + THROUGH:
            for k in (-1, -2, -LONG):
                refuses(self, InvalidNumber, k, Line(start, step).at, k=k)

    def test_through_the_eye(self):
        for start, step, seen in [((2, 2), (1, 1), []), ((-2, -2), (1, 1), [1, 3]),
                                  ((0, 0), (1, 0), [1]), ((1, 0), (1, 0), [0]),
                                  ((-1, 0), (1, 0), [0, 2]), ((0, 0, 5), (0, 0, -1), [4, 6]),
                                  ((0, FAR), (0, -1), [FAR - 1, FAR + 1]), ((0, FAR), (0, 1), [])]:
            line = Line(start, step)
            for k, t in enumerate(seen):
                answers(self, t, line.at, k=k)
                exactly(self, line.seen_at(t), True)
            for k in (len(seen), len(seen) + 1, 2, 3, LONG):
                refuses(self, InvalidNumber, k, line.at, k=k)


class Share(unittest.TestCase):
    def test_against_a_count_one_by_one(self):
        for line in some_lines():
            top, bottom = line.share()
            answers(self, (top, bottom), line.share)
            exactly(self, gcd(top, bottom), 1)
            self.assertGreaterEqual(bottom, 1)
            exactly(self, top * line.number, len(seen_on(line, 0, line.number - 1)) * bottom)

    def test_some_lines(self):
        for start, step, expected in [((0, 6), (1, 1), (1, 3)), ((0, 1), (1, 0), (1, 1)),
                                      ((0, 30030), (1, 0), (192, 1001)), ((0, 0), (1, 0), (0, 1)),
                                      ((9, 30029), (1, 0), (30028, 30029)), ((1, 4), (1, 0), (1, 2))]:
            answers(self, expected, Line(start, step).share)


class Longest(unittest.TestCase):
    def test_against_a_count_one_by_one(self):
        for line in some_lines():
            stretches = {}
            for t in range(line.number + 1):
                if line.seen_at(t - 1) and not line.seen_at(t):
                    many = 1
                    while not line.seen_at(t + many):
                        many += 1
                    stretches.setdefault(many, t)
            most = max(stretches, default=0)
            answers(self, (most, stretches.get(most)), line.longest)

    def test_some_lines(self):
        for start, step, expected in [
                ((0, 6), (1, 1), (3, 2)), ((0, 1), (1, 0), (0, None)), ((2, 2), (1, 1), None),
                ((0, 2), (1, 0), (1, 0)), ((1, 2), (1, 0), (1, 1)), ((0, 30029), (1, 0), (1, 0)),
                ((1, 30029), (1, 0), (1, 30028)), ((3, 6), (1, 0), (3, 5)), ((4, 6), (1, 0), (3, 4)),
                ((2, 6), (1, 0), (3, 0)), ((5, 1), (0, 1), (1, 4))]:
            answers(self, expected, Line(start, step).longest)

    def test_products_of_the_first_primes(self):
        for number, many in DARKEST:
            line = Line((4, number), (1, 0))
            found, t = line.longest()
            exactly(self, found, many)
            exactly(self, line.total(t, t + many - 1), 0)
            exactly(self, (line.seen_at(t - 1), line.seen_at(t + many)), (True, True))
            self.assertTrue(0 <= t < number)
            exactly(self, any(line.total(s, s + many - 1) == 0 for s in range(min(t, 300))), False)

    def test_no_post_is_hidden(self):
        for start, step in [((0, 1), (1, 0)), ((7, 3, 1), (1, 0, 0)), ((FAR, 1), (1, 0))]:
            answers(self, (0, None), Line(start, step).longest)

    def test_through_the_eye(self):
        for start, step, _ in THROUGH:
            answers(self, None, Line(start, step).longest)
            answers(self, (0, 1), Line(start, step).share)


class Equal(unittest.TestCase):
    def test_start_and_step_count(self):
        line = Line((0, 6), (1, 1))
        exactly(self, line == Line((0, 6), (1, 1)), True)
        exactly(self, line != Line((0, 6), (1, 1)), False)
        for other in [Line((1, 7), (1, 1)), Line((0, 6), (-1, -1)), Line((0, 6), (1, 2)),
                      Line((0, 6, 0), (1, 1, 0)), Line((0, -6), (1, 1))]:
            exactly(self, (line == other, other == line, line != other), (False, False, True))

    def test_nothing_else_is_equal(self):
        line = Line((0, 6), (1, 1))
        for other in [None, 0, "(0,6) by (1,1)", (0, 6), ((0, 6), (1, 1)), [(0, 6), (1, 1)], {},
                      Picture(2, [(0, 6)], [(1, 1)])]:
            exactly(self, (line == other, other == line, line != other), (False, False, True))

    def test_it_never_changes(self):
        line = Line((0, 6), (1, 1))
        kept = copy.deepcopy(line)
        line.dark().append((5, 0))
        wrong(self, InvalidNumber, -1, line.at, -1)
        for name in ("start", "step", "number"):
            with self.assertRaises(AttributeError):
                setattr(line, name, 5)
        exactly(self, (line.start, line.step, line.number, line == kept), ((0, 6), (1, 1), 6, True))
        exactly(self, (line.total(1, 12), line.at(3), line.longest()), (4, 11, (3, 2)))


class Mirrored(unittest.TestCase):
    def test_a_line_and_the_same_line_the_other_way(self):
        for line in some_lines()[::3]:
            back = Line(line.start, tuple(-n for n in line.step))
            exactly(self, (line.number, line.share()), (back.number, back.share()))
            exactly(self, line.total(-17, 40), back.total(-40, 17))
            exactly(self, [line.seen_at(-t) for t in range(-9, 9)],
                    [back.seen_at(t) for t in range(-9, 9)])

    def test_lines_along_the_axes(self):
        for place in around((0, 0), 3) + around((0, 0, 0), 1):
            for axis in range(len(place)):
                for sign in (1, -1):
                    step = tuple(sign if n == axis else 0 for n in range(len(place)))
                    line = Line(place, step)
                    exactly(self, line.number, gcd(*[n for at, n in enumerate(place) if at != axis]))
                    exactly(self, line.total(-9, 9), len(seen_on(line, -9, 9)))


if __name__ == "__main__":
    unittest.main()
