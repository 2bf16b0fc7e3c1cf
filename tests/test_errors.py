import unittest

from seenposts import errors
from seenposts.errors import PostError

BELOW = ["InvalidSize", "InvalidPlace", "DoublePlace", "InvalidMatrix", "InvalidStep",
         "InvalidNumber", "InvalidWord", "Conflict", "Barred", "Taken", "Wrong",
         "NothingToUndo", "Unreadable"]


def all_classes():
    return [PostError] + [getattr(errors, name) for name in BELOW]


class Family(unittest.TestCase):
    def test_post_error_is_directly_below_value_error(self):
        self.assertEqual(PostError.__bases__, (ValueError,))

    def test_every_other_class_is_directly_below_post_error(self):
        for name in BELOW:
            self.assertEqual(getattr(errors, name).__bases__, (PostError,), name)

    def test_there_are_thirteen_different_classes_with_their_own_names(self):
        self.assertEqual([kind.__name__ for kind in all_classes()], ["PostError"] + BELOW)
        self.assertEqual(len({id(kind) for kind in all_classes()}), 14)

    def test_one_class_does_not_catch_another(self):
        for kind in all_classes()[1:]:
            for other in all_classes()[1:]:
                self.assertEqual(issubclass(kind, other), kind is other)


class Value(unittest.TestCase):
    def test_the_value_is_stored_itself_whatever_it_is(self):
        values = [0, -1, 10 ** 5000, "", "a text", None, True, 1.5, b"x", (), (1, 2), [], [[1], [2]],
                  {}, {"a": [1]}, {1, 2}, object(), ValueError("x"), PostError, len]
        for kind in all_classes():
            for value in values:
                self.assertIs(kind(value).value, value)
                self.assertIs(kind(value=value).value, value)

    def test_a_list_is_not_copied(self):
        rows = [[1, 2]]
        error = errors.InvalidMatrix(rows)
        rows.append([3])
        self.assertIs(error.value, rows)
        self.assertEqual(error.value, [[1, 2], [3]])

    def test_exactly_one_argument_is_taken(self):
        for kind in all_classes():
            for make in (lambda: kind(), lambda: kind(1, 2), lambda: kind(1, value=2),
                         lambda: kind(other=1)):
                with self.assertRaises(TypeError):
                    make()

    def test_they_can_be_raised_and_caught_as_post_error_and_as_value_error(self):
        for kind in all_classes():
            for family in (kind, PostError, ValueError):
                with self.assertRaises(family) as caught:
                    raise kind(value=(1, 2))
                self.assertEqual(caught.exception.value, (1, 2))

    def test_two_errors_do_not_share_a_value(self):
        one, other = PostError(1), PostError(2)
        self.assertEqual((one.value, other.value), (1, 2))


if __name__ == "__main__":
    unittest.main()
