"""The examples of the document, as they stand there, and those of README.md."""

import doctest
import os
import unittest

PLACES = """
>>> from seenposts.places import between, first_post, is_seen, remainders
>>> [is_seen((3, 10 ** 50)), is_seen((0, -1)), is_seen((0, 0)), between((6, -9)), first_post((6, -9)), between((0, 0, 0)), remainders((-1, 7), 3)]
[True, True, False, 2, (2, -3), 0, (2, 1)]
"""

PICTURES = """
>>> from seenposts.pictures import Picture
>>> corner = Picture(2, [(1, 0), (0, 0), (0, 1)], [(1, 1)])
>>> [corner.seen, corner.mapped([[1, 1], [0, 1]]).seen, corner.shifted((2, -3)).least() == corner, (corner - Picture(2, [(0, 0)], [])).seen, (1, 1) in corner, len(corner | Picture(2, [(5, 5)], []))]
[[(0, 0), (0, 1), (1, 0)], [(0, 0), (1, 0), (1, 1)], True, [(0, 1), (1, 0)], True, 5]
"""


class Examples(unittest.TestCase):
    def check(self, text, least):
        """Run the examples of a text, of which there are at least so many."""
        test = doctest.DocTestParser().get_doctest(text, {}, "examples", None, 0)
        told = []
        found = doctest.DocTestRunner(verbose=False).run(test, out=told.append)
        self.assertEqual(found.failed, 0, "".join(told))
        self.assertGreaterEqual(found.attempted, least)

    def test_places(self):
        self.check(PLACES, 2)

    def test_pictures(self):
        self.check(PICTURES, 3)

    def test_readme(self):
        path = os.path.join(os.path.dirname(__file__), os.pardir, "README.md")
        with open(path, encoding="ascii") as file:
            self.check(file.read(), 15)


if __name__ == "__main__":
    unittest.main()
