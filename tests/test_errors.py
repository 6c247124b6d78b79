"""The errors of the package, as the interface lists them."""

import unittest

from followrows import errors
from followrows.errors import FollowError, ParseError
from tests.anything import LONG

NAMES = [
    'AlreadyTold', 'InvalidClause', 'InvalidColumn', 'InvalidLine', 'InvalidMatch', 'InvalidMenu', 'InvalidName',
    'InvalidNumber', 'InvalidQuestion', 'InvalidRow', 'InvalidRuns', 'InvalidSetting', 'InvalidStanding',
    'InvalidValue', 'InvalidWish', 'InvalidWord', 'InvalidWriting', 'IsDead', 'NotTold', 'NothingToUndo', 'TooMany',
    'UnknownClause', 'UnknownEntry', 'UnknownName', 'UnknownSign',
]


class ErrorClasses(unittest.TestCase):

    def test_base(self):
        self.assertEqual(FollowError.__bases__, (ValueError,))

    def test_direct_subclasses(self):
        for name in NAMES + ['ParseError']:
            with self.subTest(name):
                self.assertEqual(getattr(errors, name).__bases__, (FollowError,))

    def test_defined_where_listed(self):
        for name in NAMES + ['ParseError', 'FollowError']:
            with self.subTest(name):
                self.assertEqual(getattr(errors, name).__module__, 'followrows.errors')
                self.assertEqual(getattr(errors, name).__name__, name)

    def test_caught_by_own_class_and_bases(self):
        for name in NAMES + ['FollowError']:
            own = getattr(errors, name)
            for by in (own, FollowError, ValueError):
                with self.subTest(name, by=by):
                    with self.assertRaises(by) as caught:
                        raise own('some words')
                    self.assertIs(caught.exception.__class__, own)

    def test_not_caught_by_other_classes(self):
        classes = [getattr(errors, name) for name in NAMES + ['ParseError']]
        for own in classes:
            for other in classes:
                self.assertEqual(issubclass(own, other), own is other)


class ParseErrors(unittest.TestCase):

    def test_keeps_line(self):
        for line in (0, 1, 7, LONG, 10 ** 5000):
            error = ParseError(line)
            self.assertTrue(error.line == line)
            self.assertIs(error.line.__class__, int)

    def test_by_name(self):
        self.assertEqual(ParseError(line=3).line, 3)

    def test_each_keeps_its_own(self):
        one, other = ParseError(1), ParseError(2)
        self.assertEqual([one.line, other.line], [1, 2])

    def test_caught_by_own_class_and_bases(self):
        for by in (ParseError, FollowError, ValueError):
            with self.assertRaises(by) as caught:
                raise ParseError(12)
            self.assertEqual(caught.exception.line, 12)

    def test_can_be_shown_with_a_long_line(self):
        self.assertIsInstance(str(ParseError(10 ** 5000)), str)
        self.assertIsInstance(repr(ParseError(10 ** 5000)), str)


if __name__ == '__main__':
    unittest.main()
