"""The examples of the document, as they stand there, and those of README.md."""

import doctest
import os
import unittest

PLACES = """
>>> from seenposts.places import between, first_post, is_seen, remainders
>>> [is_seen((3, 10 ** 50)), is_seen((0, -1)), is_seen((0, 0)), between((6, -9)), first_post((6, -9)), between((0, 0, 0)), remainders((-1, 7), 3)]
[True, True, False, 2, (2, -3), 0, (2, 1)]
"""

PICTURES = """
>>> from seenposts.pictures import Picture
>>> corner = Picture(2, [(1, 0), (0, 0), (0, 1)], [(1, 1)])
>>> [corner.seen, corner.mapped([[1, 1], [0, 1]]).seen, corner.shifted((2, -3)).least() == corner, (corner - Picture(2, [(0, 0)], [])).seen, (1, 1) in corner, len(corner | Picture(2, [(5, 5)], []))]
[[(0, 0), (0, 1), (1, 0)], [(0, 0), (1, 0), (1, 1)], True, [(0, 1), (1, 0)], True, 5]
"""

SHOWS = """
>>> from seenposts.pictures import Picture
>>> from seenposts.shows import barring, classes, find_shift, is_possible, judge_barring, shows
>>> corner = Picture(2, [(0, 0), (0, 1), (1, 0)], [(1, 1)])
>>> square = Picture(2, [(0, 0), (0, 1), (1, 0), (1, 1)], [])
>>> [shows(corner, (1, 1)), shows(corner, (1, 3)), shows(corner, find_shift(corner)), is_possible(square), barring(square), find_shift(square), classes(corner, 2)[3], judge_barring(square, 2, [(1, 1), (0, 0), (1, 0), (0, 1)])]
[True, True, True, False, 2, None, ((1, 1), None), True]
"""

FORCED = """
>>> from seenposts.forced import alike, both_ways, follows, forced_by, forced_in, opposed, status, whole
>>> from seenposts.pictures import Picture
>>> three = Picture(2, [(0, 0), (0, 1), (1, 0)], [])
>>> [status(three, (1, 1)), status(three, (2, 2)), status(three, (3, -1)), forced_in(three, (0, 0), (3, 2)), follows(three, Picture(2, [], [(1, 1)])), follows(Picture(2, [], [(1, 1)]), three), opposed(three, Picture(2, [(1, 1)], []))]
['hidden', 'open', 'hidden', [(1, 1), (3, 1)], True, False, True]
>>> [whole(three).hidden, alike(three, whole(three)), forced_by(three, (3, -1)), forced_by(three, (2, 2)), both_ways(three, (1, 1)), len(both_ways(three, (2, 2)))]
[[(1, 1)], True, 2, None, None, 2]
"""

THICK = """
>>> from seenposts.pictures import Picture
>>> from seenposts.thick import class_count, is_thicker, thickness
>>> [thickness(Picture(2, [(0, 0)], []), 3), thickness(Picture(2, [], [(5, 5)]), 3), thickness(Picture(3, [(0, 0, 0)], []), 2), class_count([(0, 0), (2, 4), (1, 1)], 2), is_thicker(Picture(2, [(0, 0)], []), Picture(2, [(0, 0), (0, 1)], []), 60)]
[((4, 9), (2, 3)), ((1, 3), (5, 9)), ((49, 64), (7, 8)), 2, True]
"""

COUNTS = """
>>> from seenposts.counts import count_seen, count_shown, first_shown, shown_in
>>> from seenposts.pictures import Picture
>>> three = Picture(2, [(0, 0), (0, 1), (1, 0)], [])
>>> [count_seen((1, 1), (3, 3)), count_seen((-1, -1, -1), (1, 1, 1)), count_shown(three, (0, 0), (3, 3)), shown_in(three, (0, 0), (3, 3)), first_shown(three, 5), first_shown(Picture(2, [], [(0, 0), (0, 1)]), 1)]
[7, 26, 3, [(1, 1), (1, 3), (3, 1)], (-1, -1), None]
"""

BOXES = """
>>> from seenposts.boxes import judge_keys, key_list, most_seen, number_of_sets, seen_lot
>>> from seenposts.shows import is_possible
>>> [most_seen([2, 2]), most_seen([3, 3]), most_seen([1, 6]), most_seen([2, 2, 2]), key_list([3, 3]), judge_keys([3, 3], [(2, (1, 1)), (3, (0, 0))], 7), number_of_sets([2, 2]), len(seen_lot([4, 3])) == most_seen([4, 3]), is_possible(seen_lot([4, 3])), most_seen([2, 10 ** 30])]
[3, 8, 6, 7, [(2, (1, 1)), (3, (1, 1))], True, 15, True, True, 1500000000000000000000000000000]
"""

LINES = """
>>> from seenposts.lines import Line
>>> line = Line((0, 6), (1, 1))
>>> [line.number, line.dark(), line.seen_at(10 ** 30), line.total(1, 12), line.total(-10 ** 30, 10 ** 30), line.at(3), line.share(), line.longest(), line.post(-2)]
[6, [(2, 0), (3, 0)], False, 4, 666666666666666666666666666666, 11, (1, 3), (3, 2), (-2, 4)]
>>> through = Line((2, 2), (1, 1))
>>> [through.number, through.total(-9, 9), through.seen_at(-3), through.longest(), Line((0, 1), (1, 0)).longest(), Line((0, 0, 2), (1, 0, 0)).dark()]
[0, 2, True, None, (0, None), [(2, 0)]]
"""

EYES = """
>>> from seenposts.eyes import barring_eyes, for_eyes, in_sight, meeting, seen_by
>>> looks = for_eyes(2, [((0, 0), (3, 1), "seen"), ((1, 0), (3, 1), "hidden"), ((1, 1), (4, 2), "seen")])
>>> eyes = [(0, 0), (1, 0), (1, 1)]
>>> [looks.seen, looks.hidden, seen_by(eyes, (3, 1)), in_sight(eyes, (0, 0), (2, 2)), seen_by(eyes, meeting(2, eyes)), meeting(2, eyes + [(0, 1)]), barring_eyes(2, eyes + [(2, 2), (0, 1)])]
[[(3, 1)], [(2, 1)], [0, 1], [(0, 1), (2, 1)], [0, 1, 2], None, (2, [0, 1, 2, 4])]
"""

BACK = """
>>> from seenposts.back import best_look, fitting, judge_plan, look_plan, looks_needed, parting
>>> shifts, places = [(0, 1), (1, 1), (2, 1)], [(0, 0), (0, 1), (0, 2)]
>>> [fitting(shifts, [((0, 1), "hidden")]), best_look(shifts, places), looks_needed(shifts, places), looks_needed(shifts, [(0, 0)]), judge_plan(shifts, look_plan(shifts, places)), judge_plan(shifts, ("shift", (0, 1))), parting((0, 1), (2, 1), (0, 0), (2, 2)), parting((0, 1), (0, 1), (0, 0), (9, 9))]
[[(0, 1), (2, 1)], (0, 1), 2, None, True, False, (0, 2), None]
"""

WINDOWS = """
>>> from seenposts.windows import PlacedWindow, Window
>>> window = Window(2)
>>> [window.add_all([((0, 0), "seen"), ((0, 1), "seen"), ((1, 0), "seen")]), window.word_at((3, 3)), window.word_at((2, 1)), window((2, 2), "hidden"), len(window), window.undo(), window.looks[-1], window.picture.hidden]
[None, 'hidden', 'open', None, 4, None, ((1, 0), 'seen'), []]
>>> placed = PlacedWindow((1, 1))
>>> [placed((0, 0), "seen"), placed((1, 1), "hidden"), placed.picture.hidden, placed.shift, placed == window]
[None, None, [(1, 1)], (1, 1), False]
"""

TEXTS = """
>>> from seenposts.lines import Line
>>> from seenposts.pictures import Picture
>>> from seenposts.readings import read_line, read_picture, read_place
>>> from seenposts.texts import show_line, show_picture, show_place
>>> corner = Picture(2, [(1, 0), (0, 0)], [(-1, 1)])
>>> [show_picture(corner), read_picture(show_picture(corner)) == corner, show_picture(Picture(3, [], [])), show_place((0, -5, 7)), read_place("(3,-4)"), show_line(Line((0, 6), (1, 1))), read_line("(2,2) by (1,1)") == Line((2, 2), (1, 1))]
['2 seen (0,0) (1,0) hidden (-1,1)', True, '3 seen hidden', '(0,-5,7)', (3, -4), '(0,6) by (1,1)', True]
"""


class Examples(unittest.TestCase):
    def check(self, text, least):
        """Run the examples of a text, of which there are at least so many."""
        test = doctest.DocTestParser().get_doctest(text, {}, "examples", None, 0)
        told = []
        found = doctest.DocTestRunner(verbose=False).run(test, out=told.append)
        self.assertEqual(found.failed, 0, "".join(told))
        self.assertGreaterEqual(found.attempted, least)

    def test_places(self):
        self.check(PLACES, 2)

    def test_pictures(self):
        self.check(PICTURES, 3)

    def test_shows(self):
        self.check(SHOWS, 5)

    def test_forced(self):
        self.check(FORCED, 5)

    def test_thick(self):
        self.check(THICK, 3)

    def test_counts(self):
        self.check(COUNTS, 4)

    def test_boxes(self):
        self.check(BOXES, 3)

    def test_lines(self):
        self.check(LINES, 5)

    def test_eyes(self):
        self.check(EYES, 4)

    def test_back(self):
        self.check(BACK, 3)

    def test_windows(self):
        self.check(WINDOWS, 5)

    def test_texts(self):
        self.check(TEXTS, 6)

    def test_readme(self):
        path = os.path.join(os.path.dirname(__file__), os.pardir, "README.md")
        with open(path, encoding="ascii") as file:
            self.check(file.read(), 79)


if __name__ == "__main__":
    unittest.main()
