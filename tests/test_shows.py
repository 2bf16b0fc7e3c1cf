import random
import unittest

from seenposts.errors import InvalidNumber, InvalidPlace
from seenposts.pictures import Picture
from seenposts.shows import barring, classes, find_shift, is_possible, judge_barring, shows
from tests.helping import PRIMES, added, answers, around, bars, box, exactly, only_by, refuses
from tests.helping import remain, shown, small_pictures

CORNER = Picture(2, [(0, 0), (0, 1), (1, 0)], [(1, 1)])
SQUARE = Picture(2, [(0, 0), (0, 1), (1, 0), (1, 1)], [])
CUBE = box((0, 0, 0), (1, 1, 1))
BIG = 10 ** 40 - 1
FAR = 10 ** 60 - 1


class Shows(unittest.TestCase):
    def test_seen_and_hidden_as_told(self):
        for shift, expected in [((1, 1), True), ((1, 3), True), ((0, 0), False), ((1, 2), False),
                                ((2, 1), False), ((-1, -1), True), ((5, 5), False)]:
            answers(self, expected, shows, picture=CORNER, shift=shift)

    def test_each_place_counts(self):
        for seen, hidden, expected in [
                ([(1, 2)], [], True), ([], [(1, 2)], False), ([(2, 2)], [], False),
                ([], [(2, 2)], True), ([(1, 2), (2, 2)], [], False), ([(2, 2), (3, 2)], [], False),
                ([], [(2, 2), (1, 2)], False), ([], [(1, 2), (2, 2)], False),
                ([(1, 2)], [(2, 2)], True), ([(1, 2)], [(3, 2)], False), ([], [], True)]:
            answers(self, expected, shows, picture=Picture(2, seen, hidden), shift=(0, 0))

    def test_the_place_of_the_eye_is_hidden(self):
        answers(self, True, shows, picture=Picture(2, [], [(3, -4)]), shift=(-3, 4))
        answers(self, False, shows, picture=Picture(2, [(3, -4)], []), shift=(-3, 4))
        answers(self, False, shows, picture=Picture(3, [(1, 1, 1)], []), shift=(-1, -1, -1))

    def test_in_space(self):
        picture = Picture(3, [(0, 0, 0), (2, 4, 1)], [(1, 1, 1)])
        for shift in around((0, 0, 0), 3) + around((BIG, FAR, -FAR), 1):
            answers(self, shown(picture, shift), shows, picture=picture, shift=shift)

    def test_windows_near_the_eye_and_far_away(self):
        picture = Picture(2, [(0, 0), (2, 1), (-4, 3)], [(1, 1), (-1, 3)])
        found = [shift for shift in around((0, 0), 12) if shows(picture, shift)]
        exactly(self, found, [shift for shift in around((0, 0), 12) if shown(picture, shift)])
        self.assertGreater(len(found), 5)
        for centre in [(FAR, -FAR), (6 * 10 ** 58, 10 ** 59), (0, FAR)]:
            for shift in around(centre, 6):
                exactly(self, shows(picture, shift), shown(picture, shift))

    def test_two_hundred_places_of_each_with_many_digits(self):
        shift = (6 * FAR, -35 * FAR)
        seen = [(n - shift[0], 1 - shift[1]) for n in range(200)]
        hidden = [(2 * n - shift[0], -10 - shift[1]) for n in range(200)]
        picture = Picture(2, seen, hidden)
        answers(self, True, shows, picture=picture, shift=shift)
        answers(self, False, shows, picture=picture, shift=added(shift, (1, 0)))
        wide = Picture(2, [(BIG - k, BIG - k * k) for k in range(200)],
                       [(-BIG + k, k) for k in range(200)])
        self.assertIs(shows(wide, (1, 1)), shown(wide, (1, 1)))

    def test_sums_and_images_of_returned_shifts(self):
        picture = Picture(2, [(0, 0), (1, 0)], box((10, 10), (14, 17)))
        shift = find_shift(picture)
        answers(self, True, shows, picture=picture, shift=shift)
        turned = picture.mapped([[0, -1], [1, 0]])
        answers(self, True, shows, picture=turned, shift=(-shift[1], shift[0]))
        answers(self, True, shows, picture=picture.shifted(shift), shift=(0, 0))
        total = shift
        for _ in range(500):
            total = added(total, total)
        answers(self, shown(picture, total), shows, picture=picture, shift=total)
        back = picture.shifted(tuple(-number for number in total))
        answers(self, shown(picture, (0, 0)), shows, picture=back, shift=total)
        answers(self, True, shows, picture=back, shift=added(total, shift))

    def test_wrong_shifts(self):
        for shift in [(), (1,), (1, 1, 1), (0,) * 6]:
            refuses(self, InvalidPlace, shift, shows, picture=CORNER, shift=shift)
            refuses(self, InvalidPlace, shift, shows, picture=Picture(2, [], []), shift=shift)
        for shift in [(), (1, 1), (1, 1, 1, 1)]:
            refuses(self, InvalidPlace, shift, shows, picture=Picture(3, CUBE, []), shift=shift)


class Possible(unittest.TestCase):
    def test_the_square_and_its_corner(self):
        answers(self, True, is_possible, picture=CORNER)
        answers(self, None, barring, picture=CORNER)
        answers(self, False, is_possible, picture=SQUARE)
        answers(self, 2, barring, picture=SQUARE)

    def test_only_this_prime_bars(self):
        for size, primes in PRIMES.items():
            for prime in primes:
                picture = Picture(size, only_by(prime, size), [])
                answers(self, prime, barring, picture=picture)
                answers(self, False, is_possible, picture=picture)
                for place in picture.seen:
                    lacking = Picture(size, [some for some in picture.seen if some != place], [])
                    answers(self, None, barring, picture=lacking)
                    answers(self, True, is_possible, picture=lacking)

    def test_the_least_of_several_primes(self):
        answers(self, 2, barring, picture=Picture(2, box((0, 0), (2, 2)), []))
        both = Picture(2, only_by(3, 2), []) | Picture(2, only_by(5, 2), [])
        answers(self, 3, barring, picture=both)
        answers(self, 2, barring, picture=Picture(3, box((0, 0, 0), (2, 2, 2)), []))

    def test_sixty_seen_places(self):
        odd = [place for place in box((-40, -40), (40, 40)) if place[0] % 2 == 1]
        pick = random.Random(1)
        for _ in range(20):
            picture = Picture(2, pick.sample(odd, 60), [(0, 0)])
            primes = [p for p in (2, 3, 5, 7) if bars(picture.seen, p, 2)]
            answers(self, (primes + [None])[0], barring, picture=picture)
            answers(self, primes == [], is_possible, picture=picture)
        rows = Picture(2, [(1, n) for n in range(-30, 30)], [])
        answers(self, True, is_possible, picture=rows)

    def test_hidden_places_bar_nothing(self):
        answers(self, True, is_possible, picture=Picture(2, [], box((0, 0), (5, 5))))
        answers(self, None, barring, picture=Picture(2, [(9, 9)], box((0, 0), (5, 5))))
        answers(self, 2, barring, picture=Picture(2, SQUARE.seen, [(2, 2), (-1, -1)]))

    def test_without_places(self):
        for size in (2, 3):
            answers(self, True, is_possible, picture=Picture(size, [], []))
            answers(self, None, barring, picture=Picture(size, [], []))
            answers(self, True, is_possible, picture=Picture(size, [(0,) * size], []))

    def test_remainders_of_places_below_zero(self):
        answers(self, 2, barring, picture=Picture(2, [(-3, -2), (-2, -1), (-1, -1), (0, -8)], []))
        answers(self, None, barring, picture=Picture(2, [(-3, -2), (3, 2), (-1, -1), (0, -8)], []))

    def test_in_space_the_square_of_a_prime_is_not_enough(self):
        flat = Picture(3, box((0, 0, 0), (1, 1, 0)), [])
        answers(self, None, barring, picture=flat)
        answers(self, None, barring, picture=Picture(3, CUBE[1:], []))
        answers(self, 2, barring, picture=Picture(3, CUBE, [(2, 2, 2)]))

    def test_it_is_told_by_where_small_pictures_are_shown(self):
        window = around((0, 0), 22)
        for seen, hidden in small_pictures((0, 0), (1, 1)):
            picture = Picture(2, seen, hidden)
            exactly(self, is_possible(picture), any(shown(picture, shift) for shift in window))


class Classes(unittest.TestCase):
    def test_the_corner(self):
        answers(self, [((0, 0), (0, 0)), ((0, 1), (0, 1)), ((1, 0), (1, 0)), ((1, 1), None)],
                classes, picture=CORNER, prime=2)

    def test_the_first_seen_place_with_each_remainders(self):
        picture = Picture(2, [(5, 1), (-1, 3), (2, 2), (0, -2), (3, -3)], [(1, 0), (-7, 0)])
        answers(self, [((0, 0), (0, -2)), ((0, 1), None), ((1, 0), None), ((1, 1), (-1, 3))],
                classes, picture=picture, prime=2)
        answers(self, [((0, 0), (3, -3)), ((0, 1), (0, -2)), ((0, 2), None), ((1, 0), None),
                       ((1, 1), None), ((1, 2), None), ((2, 0), (-1, 3)), ((2, 1), (5, 1)),
                       ((2, 2), (2, 2))], classes, picture=picture, prime=3)

    def test_every_prime(self):
        pick = random.Random(2)
        for size, primes in PRIMES.items():
            for prime in primes:
                seen = pick.sample(box((-3,) * size, (4,) * size), 60)
                found = classes(Picture(size, seen, []), prime)
                exactly(self, [told for told, place in found],
                        box((0,) * size, (prime - 1,) * size))
                for told, place in found:
                    having = [some for some in sorted(seen) if remain(some, prime) == told]
                    exactly(self, place, (having + [None])[0])

    def test_without_seen_places(self):
        answers(self, [((a, b), None) for a in (0, 1) for b in (0, 1)], classes,
                picture=Picture(2, [], [(1, 1)]), prime=2)

    def test_the_list_is_new(self):
        found = classes(CORNER, 2)
        found.clear()
        exactly(self, classes(CORNER, 2)[3], ((1, 1), None))

    def test_wrong_primes(self):
        for size, numbers in [(2, [0, 1, -2, 4, 6, 8, 9, 11, -7, 10 ** 61]),
                              (3, [0, 1, -3, 4, 5, 6, 7, 8, 11])]:
            for number in numbers:
                picture = Picture(size, [], [])
                refuses(self, InvalidNumber, number, classes, picture=picture, prime=number)
                refuses(self, InvalidNumber, number, judge_barring, picture=picture, prime=number,
                        told=[(0,) * size])


class Judging(unittest.TestCase):
    def test_every_order_of_the_right_places(self):
        answers(self, True, judge_barring, picture=SQUARE, prime=2,
                told=[(1, 1), (0, 0), (1, 0), (0, 1)])
        answers(self, True, judge_barring, picture=SQUARE, prime=2, told=SQUARE.seen)

    def test_what_each_prime_needs(self):
        for size, primes in PRIMES.items():
            for prime in primes:
                picture = Picture(size, only_by(prime, size), [])
                told = [place for _, place in classes(picture, prime)]
                exactly(self, judge_barring(picture, prime, told), True)
                exactly(self, judge_barring(picture, prime, told[1:]), False)
                exactly(self, judge_barring(picture, prime, told[:-1] + told[:1]), False)

    def test_wrong_lists(self):
        good = [(0, 0), (0, 1), (1, 0), (1, 1)]
        picture = Picture(2, good + [(2, 2), (3, 3)], [(5, 5), (4, 5)])
        exactly(self, judge_barring(picture, 2, good), True)
        for told in [[], good[:3], good + [(2, 2)], good + [(1, 1)], good[:3] + [(1, 0)],
                     good[1:] + [(1, 1)], good[:3] + [(5, 5)], good[:3] + [(7, 7)],
                     good[:3] + [(2, 2)], good[:3] + [(1,)], good[:3] + [()], [()] * 4,
                     good[:3] + [(1, 1, 1)], good[:3] + [(1, 1, 0)], good * 15,
                     [(0, 0, 0), (0, 1, 0), (1, 0, 0), (1, 1, 0)], [(1,), (2,), (3,), (4,)]]:
            answers(self, False, judge_barring, picture=picture, prime=2, told=told)
        for last in [(1, 1), (3, 3)]:
            answers(self, True, judge_barring, picture=picture, prime=2, told=good[:3] + [last])

    def test_a_hidden_place_does_not_count(self):
        picture = Picture(2, [(0, 0), (0, 1), (1, 0)], [(1, 1)])
        answers(self, False, judge_barring, picture=picture, prime=2,
                told=[(0, 0), (0, 1), (1, 0), (1, 1)])

    def test_another_prime_is_not_meant(self):
        nine = only_by(3, 2)
        answers(self, True, judge_barring, picture=Picture(2, nine, []), prime=3, told=nine)
        answers(self, False, judge_barring, picture=Picture(2, nine, []), prime=2, told=nine)
        answers(self, False, judge_barring, picture=Picture(2, nine, []), prime=7, told=nine)

    def test_in_space(self):
        picture = Picture(3, CUBE + [(2, 2, 2)], [(3, 3, 3)])
        answers(self, True, judge_barring, picture=picture, prime=2, told=CUBE)
        answers(self, True, judge_barring, picture=picture, prime=2, told=CUBE[1:] + [(2, 2, 2)])
        for told in [[], CUBE[:4], CUBE[1:], CUBE[1:] + [(0, 0)], CUBE[:-1] + [(3, 3, 3)],
                     CUBE + [(2, 2, 2)], CUBE[:-1] + [(2, 2, 2)]]:
            answers(self, False, judge_barring, picture=picture, prime=2, told=told)

    def test_sixty_entries(self):
        picture = Picture(2, box((0, 0), (5, 9)), [])
        answers(self, False, judge_barring, picture=picture, prime=7, told=picture.seen)
        answers(self, False, judge_barring, picture=picture, prime=2, told=[(0, 0)] * 60)
        picture = Picture(2, box((0, 0), (6, 6)), [])
        answers(self, True, judge_barring, picture=picture, prime=7, told=picture.seen)
        answers(self, False, judge_barring, picture=picture, prime=7,
                told=picture.seen + picture.seen[:11])


if __name__ == "__main__":
    unittest.main()
