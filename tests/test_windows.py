import copy
import random
import unittest

from seenposts.errors import Barred, InvalidPlace, InvalidSize, InvalidWord, NothingToUndo, PostError
from seenposts.errors import Taken, Wrong
from seenposts.forced import status
from seenposts.pictures import Picture
from seenposts.shows import find_shift, is_possible
from seenposts.windows import PlacedWindow, Window
from tests.helping import added, answers, around, bars, box, exactly, only_by, refuses, shown, wrong

FAR = 10 ** 60 - 1
CORNER = [((0, 0), "seen"), ((0, 1), "seen"), ((1, 0), "seen")]
SEVEN = [(place, "seen") for place in box((0, 0, 0), (1, 1, 1))[1:]]


def filled(looks, size=2):
    window = Window(size)
    window.add_all(looks)
    return window


def placed(shift, looks):
    window = PlacedWindow(shift)
    window.add_all(looks)
    return window


def state(window):
    """All that a window tells, but for the status of places."""
    picture = window.picture
    return (picture.size, picture.seen, picture.hidden, window.looks, len(window),
            window.shift if isinstance(window, PlacedWindow) else None)


def looks_at(shift, places):
    """The looks at places from a shift, as they are."""
    return [(place, "seen" if shown(Picture(len(place), [place], []), shift) else "hidden")
            for place in places]


def refused(case, window, kind, value, looks):
    """Check that neither the call nor add_all takes the last one of some looks, in any way."""
    before, kept = state(window), copy.deepcopy(window)
    refuses(case, kind, value, window.add_all, looks=looks)
    exactly(case, (state(window), window == kept), (before, True))
    for place, word in looks[:-1]:
        window(place, word)
    between = state(window)
    refuses(case, kind, value, window, place=looks[-1][0], word=looks[-1][1])
    exactly(case, state(window), between)
    for _ in looks[:-1]:
        window.undo()
    exactly(case, (state(window), window == kept), (before, True))


class Looking(unittest.TestCase):
    def check(self, window, looks):
        """Check what a window tells that has exactly these looks."""
        told = [sorted([place for place, word in looks if word == kind])
                for kind in ("seen", "hidden")]
        exactly(self, (window.picture.seen, window.picture.hidden), tuple(told))
        exactly(self, (window.looks, len(window)), (looks, len(looks)))
        for place in around((0,) * window.picture.size, 1):
            answers(self, status(window.picture, place), window.word_at, place=place)

    def test_without_looks(self):
        for size in (2, 3):
            for window in (Window(size), Window(size=size), PlacedWindow((5,) * size),
                           PlacedWindow(shift=(5,) * size)):
                exactly(self, window.picture.size, size)
                self.check(window, [])

    def test_one_by_one(self):
        for size, looks in [(2, CORNER + [((2, 2), "hidden"), ((-9, 8), "seen")]),
                            (3, SEVEN + [((0, 0, 0), "hidden"), ((4, 5, 6), "hidden")])]:
            window = Window(size)
            for many, (place, word) in enumerate(looks):
                self.check(window, looks[:many])
                exactly(self, window(place, word) if many % 2 else window(word=word, place=place),
                        None)
            self.check(window, looks)

    def test_add_all(self):
        looks = CORNER + [((7, 7), "hidden")]
        for window in (filled(looks), Window(2)):
            if len(window) == 0:
                exactly(self, window.add_all(looks=looks), None)
            self.check(window, looks)
            exactly(self, window.add_all([((5, 4), "hidden"), ((-1, -2), "seen")]), None)
            exactly(self, window.add_all([]), None)
            self.check(window, looks + [((5, 4), "hidden"), ((-1, -2), "seen")])

    def test_add_all_does_as_the_call_one_after_the_other(self):
        window = Window(2)
        for place, word in CORNER:
            window(place, word)
        exactly(self, window == filled(CORNER), True)

    def test_thirty_looks_and_a_hundred_taken_back(self):
        looks = [((n, 2 * n - 29), "seen" if n % 3 else "hidden") for n in range(30)]
        window = filled(looks)
        self.check(window, looks)
        for turn in range(100):
            window((40, turn - 40), "hidden")
            self.check(window, looks + [((40, turn - 40), "hidden")])
            exactly(self, window.undo(), None)
        self.check(window, looks)
        for many in range(29, -1, -1):
            window.undo()
            self.check(window, looks[:many])

    def test_a_hundred_looks_are_taken_back(self):
        looks = [((n % 40, n // 40), "hidden") for n in range(100)]
        window = filled(looks)
        for many in range(100, 0, -1):
            exactly(self, window.looks[-1], looks[many - 1])
            window.undo()
        self.check(window, [])
        refuses(self, NothingToUndo, 0, window.undo)

    def test_word_at(self):
        window = filled(CORNER + [((2, 2), "hidden")])
        for place, expected in [((0, 0), "seen"), ((2, 2), "hidden"), ((3, 3), "hidden"),
                                ((-1, 5), "hidden"), ((2, 1), "open"), ((FAR, FAR), "hidden"),
                                ((FAR, 2), "open")]:
            answers(self, expected, window.word_at, place=place)
        window.undo()
        answers(self, "open", window.word_at, place=(2, 2))
        window.undo()
        answers(self, "open", window.word_at, place=(3, 3))

    def test_the_picture_does_not_change_with_the_window(self):
        window = filled(CORNER)
        picture = window.picture
        window((2, 2), "hidden")
        exactly(self, (picture.hidden, window.picture.hidden), ([], [(2, 2)]))
        picture = window.picture
        window.undo()
        exactly(self, (picture.hidden, window.picture.hidden), ([(2, 2)], []))

    def test_the_lists_are_new_and_none_is_kept(self):
        looks = list(CORNER)
        window = filled(looks)
        looks.append(((9, 9), "hidden"))
        window.looks.clear()
        window.picture.seen.clear()
        self.check(window, CORNER)
        looks.clear()
        self.check(window, CORNER)
        window.add_all(Window(2).looks)
        other = Window(2)
        other.add_all(window.looks)
        other.undo()
        self.check(window, CORNER)

    def test_nothing_can_be_assigned(self):
        window = placed((1, 1), [((0, 0), "seen")])
        for name in ("picture", "looks", "shift"):
            with self.assertRaises(AttributeError):
                setattr(window, name, 5)


class Refusing(unittest.TestCase):
    def test_sizes(self):
        for size in [0, 1, 4, -2, 6, 10 ** 61]:
            refuses(self, InvalidSize, size, Window, size=size)
        for shift in [(), (1,), (1, 2, 3, 4), (0,) * 6]:
            refuses(self, InvalidSize, len(shift), PlacedWindow, shift=shift)

    def test_places_words_and_places_that_are_told(self):
        for window in (filled(CORNER), placed((1, 1), CORNER)):
            for place, word, kind, value in [
                    ((), "x", InvalidPlace, ()), ((1,), "seen", InvalidPlace, (1,)),
                    ((0, 0, 0), "hidden", InvalidPlace, (0, 0, 0)),
                    ((0,) * 6, "", InvalidPlace, (0,) * 6), ((0, 0), "", InvalidWord, ""),
                    ((0, 0), "open", InvalidWord, "open"), ((5, 5), "SEEN", InvalidWord, "SEEN"),
                    ((5, 5), "hidden ", InvalidWord, "hidden "), ((0, 0), "seen", Taken, (0, 0)),
                    ((0, 0), "hidden", Taken, (0, 0)), ((1, 0), "seen", Taken, (1, 0))]:
                refused(self, window, kind, value, [(place, word)])
                refused(self, window, kind, value, [((3, 3), "hidden"), (place, word)])

    def test_told_in_the_same_list(self):
        refused(self, Window(2), Taken, (4, 5), [((4, 5), "hidden"), ((0, 0), "seen"),
                                                 ((4, 5), "hidden")])
        refused(self, Window(2), Taken, (4, 5), [((4, 5), "hidden"), ((4, 5), "seen")])
        refused(self, PlacedWindow((0, 0)), Taken, (4, 5), [((4, 5), "seen"), ((4, 5), "hidden")])

    def test_barred(self):
        window = filled(CORNER)
        refused(self, window, Barred, 2, [((1, 1), "seen")])
        refused(self, window, Barred, 2, [((2, 2), "seen"), ((0, 3), "seen"), ((-7, 9), "seen")])
        refused(self, window, Barred, 2, [((1, 1), "hidden"), ((-7, 9), "seen")])
        refused(self, Window(2), Barred, 2, CORNER + [((3, 3), "seen")])
        refused(self, Window(3), Barred, 2, SEVEN + [((2, 2, 2), "seen")])
        refused(self, filled(SEVEN, 3), Barred, 2, [((2, 2, 2), "seen")])

    def test_the_least_barring_prime(self):
        for prime in (3, 5):
            looks = [(place, "seen") for place in only_by(prime, 2)]
            refused(self, Window(2), Barred, prime, looks)
        looks = [(place, "seen") for place in only_by(3, 3)]
        refused(self, Window(3), Barred, 3, looks)
        # The last place takes the last remainders by 2 and by 3.
        six = [(a, b) for a in range(6) for b in range(6) if (a % 2, b % 2) != (1, 1)
               and (a % 3, b % 3) != (1, 1)]
        refused(self, Window(2), Barred, 2, [(place, "seen") for place in six + [(1, 1)]])

    def test_hidden_places_bar_nothing(self):
        window = filled(CORNER)
        window.add_all([((n, n), "hidden") for n in range(1, 9)])
        exactly(self, len(window), 11)

    def test_the_first_error_of_a_list(self):
        window = filled(CORNER)
        for looks, kind, value in [
                ([((5, 5), "hidden"), ((1, 1), "seen"), ((), "x")], Barred, 2),
                ([((0, 0), "seen"), ((1, 1), "seen")], Taken, (0, 0)),
                ([((5, 5), "hidden"), ((), "x"), ((1, 1), "seen")], InvalidPlace, ()),
                ([((5, 5), "x"), ((5,), "seen")], InvalidWord, "x")]:
            before = state(window)
            refuses(self, kind, value, window.add_all, looks=looks)
            exactly(self, state(window), before)

    def test_word_at(self):
        for window in (Window(2), filled(CORNER), PlacedWindow((0, 0))):
            for place in [(), (1,), (1, 1, 1), (0,) * 6]:
                refuses(self, InvalidPlace, place, window.word_at, place=place)
        refuses(self, InvalidPlace, (1, 1), Window(3).word_at, place=(1, 1))

    def test_nothing_to_take_back(self):
        for window in (Window(2), PlacedWindow((1, 2, 3))):
            refuses(self, NothingToUndo, 0, window.undo)
            window((0,) * window.picture.size, "seen")
            window.undo()
            refuses(self, NothingToUndo, 0, window.undo)
            exactly(self, len(window), 0)

    def test_after_a_look_that_is_refused_the_last_one_that_was_taken_goes(self):
        window = filled(CORNER)
        wrong(self, Barred, 2, window, (1, 1), "seen")
        window.undo()
        exactly(self, window.looks, CORNER[:2])
        exactly(self, window((1, 1), "seen"), None)
        wrong(self, Barred, 2, window, (1, 0), "seen")
        wrong(self, Barred, 2, window.add_all, [((9, 9), "hidden"), ((1, 0), "seen")])
        window.undo()
        exactly(self, window == filled(CORNER[:2]), True)


class Placed(unittest.TestCase):
    def test_every_look_of_small_boxes(self):
        for shift in [(0, 0), (1, 1), (-3, 4), (FAR, -FAR), (7, 7, 7), (0, -1, FAR)]:
            near = around((0,) * len(shift), 2)
            looks = looks_at(shift, near)
            window = placed(shift, looks)
            exactly(self, (window.looks, window.shift), (looks, shift))
            exactly(self, shown(window.picture, shift), True)
            other = PlacedWindow(shift)
            for place, word in looks:
                false = {"seen": "hidden", "hidden": "seen"}[word]
                refuses(self, Wrong, place, other, place=place, word=false)
                refuses(self, Wrong, place, other.add_all, looks=[(place, false)])
                exactly(self, other(place, word), None)
            exactly(self, other == window, True)

    def test_it_is_wrong_and_never_barred(self):
        window = placed((1, 1), CORNER)
        refused(self, window, Wrong, (1, 1), [((1, 1), "seen")])
        refused(self, window, Wrong, (1, 1), [((3, 3), "hidden"), ((1, 1), "seen")])
        refused(self, window, Taken, (0, 0), [((0, 0), "hidden")])
        window((1, 1), "hidden")
        refused(self, window, Wrong, (2, 2), [((2, 2), "seen")])
        refused(self, window, Wrong, (2, 1), [((2, 1), "hidden")])

    def test_word_at_tells_what_is_forced_and_not_what_is_there(self):
        window = PlacedWindow((1, 1))
        answers(self, "open", window.word_at, place=(0, 0))
        window.add_all(CORNER)
        for place, expected in [((0, 0), "seen"), ((1, 1), "hidden"), ((2, 2), "open"),
                                ((2, 1), "open")]:
            answers(self, expected, window.word_at, place=place)

    def test_shifts_of_any_size(self):
        picture = Picture(2, [(0, 0), (1, 0)], box((10, 10), (14, 17)))
        shift = find_shift(picture)
        for _ in range(4):
            looks = looks_at(shift, picture.seen + picture.hidden[:28])
            window = placed(shift, looks)
            exactly(self, (window.shift, len(window)), (shift, 30))
            exactly(self, shown(window.picture, shift), True)
            shift = added(shift, added(shift, (1, -1)))

    def test_it_is_a_window(self):
        window = PlacedWindow((1, 1))
        exactly(self, (isinstance(window, Window), isinstance(Window(2), PlacedWindow)),
                (True, False))
        for name in ("__call__", "add_all", "__eq__", "shift"):
            self.assertIn(name, vars(PlacedWindow))


class Equal(unittest.TestCase):
    def same(self, one, other, expected):
        exactly(self, (one == other, other == one, one != other, other != one),
                (expected, expected, not expected, not expected))

    def test_size_and_looks_in_their_order_count(self):
        window = filled(CORNER)
        self.same(window, filled(CORNER), True)
        self.same(window, window, True)
        self.same(window, filled(CORNER[::-1]), False)
        self.same(window, filled(CORNER[:2]), False)
        self.same(window, filled(CORNER[:2] + [((1, 0), "hidden")]), False)
        self.same(Window(2), Window(3), False)
        self.same(Window(3), Window(3), True)

    def test_what_was_taken_back_does_not_count(self):
        window = filled(CORNER + [((9, 9), "hidden")])
        self.same(window, filled(CORNER), False)
        window.undo()
        self.same(window, filled(CORNER), True)

    def test_placed_windows(self):
        looks = looks_at((1, 1), [(0, 0), (1, 1)])
        self.same(placed((1, 1), looks), placed((1, 1), looks), True)
        self.same(placed((1, 1), looks), placed((1, 1), looks[::-1]), False)
        self.same(placed((1, 1), looks), placed((1, 1), looks[:1]), False)
        exactly(self, looks_at((1, 3), [(0, 0), (1, 1)]), looks)
        self.same(placed((1, 1), looks), placed((1, 3), looks), False)
        self.same(PlacedWindow((0, 0)), PlacedWindow((0, 0, 0)), False)
        self.same(PlacedWindow((0, 0)), PlacedWindow((0, 0)), True)

    def test_a_placed_window_and_one_that_is_none(self):
        looks = looks_at((1, 1), [(0, 0), (1, 1)])
        for shift in [(0, 0), (1, 1)]:
            self.same(PlacedWindow(shift), Window(2), False)
        self.same(placed((1, 1), looks), filled(looks), False)
        exactly(self, Window.__eq__(filled(looks), placed((1, 1), looks)), False)

    def test_nothing_else_is_equal(self):
        for window in (filled(CORNER), Window(2), PlacedWindow((0, 0)), placed((1, 1), CORNER)):
            for other in [None, 0, 3, "Window", CORNER, window.looks, window.picture, (0, 0), {}]:
                self.same(window, other, False)


class ByChance(unittest.TestCase):
    def test_many_calls_against_plain_lists(self):
        found = {}
        for seed in range(30):
            pick = random.Random(seed)
            size, shift = pick.choice([(2, None), (2, (3, -5)), (3, None), (3, (FAR, 1, 2))])
            window = Window(size) if shift is None else PlacedWindow(shift)
            looks = []
            for _ in range(60):
                if pick.random() < 0.25:
                    if looks:
                        looks = looks[:-1]
                        window.undo()
                    continue
                more = [(tuple(pick.randrange(-1, 2) for _ in range(size)),
                         pick.choice(["seen", "seen", "hidden"]))
                        for _ in range(pick.choice([1, 1, 2, 3]))]
                kind, value, after = self.expected(looks, more, size, shift)
                if kind is None and len(more) == 1:
                    exactly(self, window(*more[0]), None)
                elif kind is None:
                    exactly(self, window.add_all(more), None)
                else:
                    wrong(self, kind, value, window.add_all, more)
                found[kind] = True
                looks = after
                exactly(self, window.looks, looks)
                exactly(self, is_possible(window.picture), True)
        self.assertEqual(set(found), {None, Taken, Barred, Wrong})

    def expected(self, looks, more, size, shift):
        """The error that some looks must raise, its value, and the looks that are there behind."""
        after = list(looks)
        for place, word in more:
            if place in [told for told, _ in after]:
                return Taken, place, looks
            if shift is not None and looks_at(shift, [place]) != [(place, word)]:
                return Wrong, place, looks
            after.append((place, word))
            seen = [told for told, some in after if some == "seen"]
            for prime in (2, 3):
                if bars(seen, prime, size):
                    return Barred, prime, looks
        return None, None, after


class Errors(unittest.TestCase):
    def test_all_are_post_errors(self):
        for call in [lambda: Window(5), lambda: Window(2).undo(), lambda: Window(2)((1,), "seen"),
                     lambda: PlacedWindow((0, 0))((0, 0), "seen")]:
            with self.assertRaises(PostError):
                call()


if __name__ == "__main__":
    unittest.main()
