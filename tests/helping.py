"""What several test files need."""

import copy


def wrong(case, kind, value, call, *args, **named):
    """Check that a call raises exactly this error with this value, and changes no argument."""
    before = copy.deepcopy((args, named))
    with case.assertRaises(kind) as caught:
        call(*args, **named)
    case.assertIs(caught.exception.__class__, kind)
    case.assertEqual(caught.exception.value, value)
    case.assertEqual(repr(caught.exception.value), repr(value))
    case.assertEqual((args, named), before)
    return caught.exception


def exactly(case, found, expected):
    """Check a value and its kind, so that 1 does not pass for True."""
    case.assertEqual(repr(found), repr(expected))
