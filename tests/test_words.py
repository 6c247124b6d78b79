"""Promises [7] and [16], and of [2] what belongs to them: words and their fillings."""

import itertools
import unittest

from followrows.columns import is_less
from followrows.errors import InvalidNumber, InvalidSetting, InvalidWord, InvalidWriting
from followrows.words import filling, has_filling, how_many, is_written, words
from tests.anything import LONG, leaves_alone, raises, strange_objects
from tests.reference import (LADDER, NO_WRITINGS, all_rows, all_words, doing, fillings, made_writings, matches,
                             placed_clauses)

# One input and no clause: with one helper, and with as many as there can be.
FREE = (1, 2, (), (), (), ())
WIDE = (1, 4, (), (), (), ())
# No two neighbouring helpers are True, for one helper and for three of them.
NOT_TWO = (1, 2, (), (), ((-4, -2),), ())
NOT_TWO_EACH = (1, 4, (), (), ((-6, -2), (-7, -3), (-8, -4)), ())
# All four parts: the helper of the first column is its input, then it turns with each True, at last it is True.
ODD = (1, 2, ((-2, 1), (-1, 2)), (), ((-4, -3, -2), (-4, 2, 3), (-3, 2, 4), (-2, 3, 4)), ((2,),))
NEVER = (1, 2, (), ((2,), (-2,)), (), ())
NO_WORDS = [(), [], ((True,),), [(None,)], [(True,), (None,)], [(None,), (True,)], [(True, True)], [(True,), (True, True)],
            [[True]], [(1,)], [(0,)], [(True,), (0,)], [True], [None], [(True,), None], ['1'], {0: (True,)}]
NO_SETTINGS = [(), [], ((True,),), [(None, None)], [(True, True)], [(True,), (None, None)], [[None]], [(1,)],
               [(None,), (0,)], [None], ['?'], {0: (None,)}]
KINDS = ((1, 1, 5, 30), (1, 2, 4, 40), (1, 3, 3, 20), (1, 4, 2, 10), (2, 2, 3, 20), (2, 3, 2, 20), (2, 4, 2, 8))


def made(seed):
    """Return writings of all kinds, each with numbers of columns that can be gone through."""
    for inputs, size, many, writings in KINDS:
        for writing in made_writings(inputs, size, writings, seed=seed + 10 * inputs + size):
            for columns in range(1, many + 1):
                yield writing, columns


def fibonacci(place):
    """Return how many rows of so many bools have no two neighbouring True."""
    one, other = 1, 2
    for _ in range(place):
        one, other = other, one + other
    return one


class HowMany(unittest.TestCase):

    def test_document(self):
        self.assertEqual(how_many(LADDER, [(False,), (False,)]), 3)

    def test_against_going_through_all_fillings(self):
        for writing, many in made(100):
            for word in all_words(writing[0], many):
                found = leaves_alone(self, how_many, writing, word)
                self.assertEqual(found, len(fillings(writing, word)), (writing, word))

    def test_sixteen_clauses_a_part(self):
        for writing in made_writings(1, 4, 10, seed=1, clauses=16) + made_writings(2, 4, 10, seed=2, clauses=16):
            for word in all_words(writing[0], 2):
                self.assertEqual(how_many(writing, word), len(fillings(writing, word)))

    def test_one_column(self):
        for writing, expected in [(FREE, [2, 2]), (WIDE, [8, 8]), (ODD, [0, 1]), (NEVER, [0, 0]), (LADDER, [2, 1]),
                                  ((1, 1, (), (), ((1,),), ()), [1, 1]), ((1, 1, ((1,),), (), (), ()), [0, 1]),
                                  ((1, 1, (), (), (), ((-1,),)), [1, 0])]:
            self.assertEqual([how_many(writing, word) for word in all_words(1, 1)], expected)

    def test_no_helpers(self):
        for word in all_words(2, 2):
            self.assertEqual(how_many((2, 2, (), (), (), ()), word), 1)

    def test_hundreds_of_columns(self):
        nothing = [(False,)] * 300
        self.assertEqual(how_many(LADDER, nothing), 301)
        for place in (0, 1, 150, 299):
            word = list(nothing)
            word[place] = (True,)
            self.assertEqual(how_many(LADDER, word), 1)
            word[(place + 55) % 300] = (True,)
            self.assertEqual(how_many(LADDER, word), 0)
            self.assertEqual(how_many(ODD, word), 0)
            self.assertEqual(how_many(NEVER, word), 0)

    def test_numbers_with_hundreds_of_figures(self):
        word = [(True,), (False,), (False,)] * 100
        self.assertEqual(how_many(FREE, word), 2 ** 300)
        self.assertEqual(how_many(WIDE, word), 8 ** 300)
        self.assertEqual(how_many(NOT_TWO, word), fibonacci(300))
        self.assertEqual(how_many(NOT_TWO_EACH, word), fibonacci(300) ** 3)
        self.assertEqual(len(str(how_many(NOT_TWO_EACH, word))), 189)
        self.assertEqual(how_many((2, 4, (), (), ((-7, -3),), ()), [(True, False)] * 300), 2 ** 300 * fibonacci(300))

    def test_kinds(self):
        for word in ([(True,), (True,)], [(True,)], [(False,)]):
            self.assertIs(how_many(LADDER, word).__class__, int)

    def test_by_name(self):
        self.assertEqual(how_many(word=[(False,)], writing=LADDER), 2)


class IsWritten(unittest.TestCase):

    def test_document(self):
        self.assertIs(is_written(LADDER, [(True,), (True,)]), False)
        self.assertIs(is_written(LADDER, [(True,), (False,)]), True)

    def test_against_going_through_all_fillings(self):
        for writing, many in made(200):
            for word in all_words(writing[0], many):
                expected = len(fillings(writing, word)) > 0
                self.assertIs(leaves_alone(self, is_written, writing, word), expected, (writing, word))

    def test_hundreds_of_columns(self):
        for places in ((), (0,), (299,), (150,), (0, 299), (149, 150), (1, 2, 3), (7, 70, 99, 299)):
            word = [(place in places,) for place in range(300)]
            self.assertIs(is_written(LADDER, word), len(places) <= 1)
            self.assertIs(is_written(ODD, word), len(places) % 2 == 1)
            self.assertIs(is_written(WIDE, word), True)
            self.assertIs(is_written(NEVER, word), False)

    def test_by_name(self):
        self.assertIs(is_written(word=[(False,)], writing=LADDER), True)


class Filling(unittest.TestCase):

    def check(self, writing, word):
        """Fail unless what filling returns is a filling of a word; return it."""
        row = leaves_alone(self, filling, writing, word)
        self.assertEqual([row.__class__] + [column.__class__ for column in row], [list] + [tuple] * len(word))
        self.assertEqual([column[:writing[0]] for column in row], word)
        for column in row:
            self.assertEqual(len(column), writing[1])
            self.assertTrue(all(entry is True or entry is False for entry in column))
        for _, literals in placed_clauses(writing, len(row)):
            self.assertNotEqual(doing(row, literals), 'broken', (writing, word, row))
        return row

    def test_document(self):
        self.assertEqual(filling(LADDER, [(True,), (False,)]), [(True, True), (False, True)])

    def test_against_going_through_all_fillings(self):
        for writing, many in made(300):
            for word in all_words(writing[0], many):
                if fillings(writing, word):
                    self.check(writing, word)
                else:
                    self.assertIsNone(leaves_alone(self, filling, writing, word))

    def test_hundreds_of_columns(self):
        for places in ((), (0,), (299,), (150,), (0, 299), (149, 150), (1, 2, 3), (7, 70, 99, 299)):
            word = [(place in places,) for place in range(300)]
            for writing, written in [(LADDER, len(places) < 2), (ODD, len(places) % 2 == 1), (WIDE, True),
                                     (NOT_TWO_EACH, True), (NEVER, False)]:
                if written:
                    self.check(writing, word)
                else:
                    self.assertIsNone(filling(writing, word))

    def test_only_the_last_column_tells(self):
        # The helper never changes, so the last column tells what it is in the first one.
        for literal in (-2, 2):
            writing = (1, 2, (), (), ((-4, 2), (-2, 4)), ((literal,),))
            self.assertEqual(filling(writing, [(True,)] * 300), [(True, literal > 0)] * 300)

    def test_a_new_list_at_each_call(self):
        for writing, word in [(LADDER, [(True,), (False,)]), ((1, 1, (), (), (), ()), [(True,), (False,)])]:
            one, other = filling(writing, word), filling(writing, word)
            self.assertIsNot(one, word)
            self.assertIsNot(one, other)
            one.clear()
            self.check(writing, word)
            self.assertEqual(len(word), 2)
            self.assertEqual(len(other), 2)

    def test_by_name(self):
        self.assertEqual(filling(word=[(True,)], writing=LADDER), [(True, True)])


class HasFilling(unittest.TestCase):

    def test_document(self):
        self.assertIs(has_filling(LADDER, [(None,), (True,)]), True)

    def test_against_going_through_all_words(self):
        for writing, many in made(400):
            inputs = writing[0]
            if 3 ** (inputs * many) > 300:
                continue
            written = [word for word in all_words(inputs, many) if fillings(writing, word)]
            for setting in all_rows(inputs, many):
                expected = any(matches(word, setting) for word in written)
                self.assertIs(leaves_alone(self, has_filling, writing, setting), expected, (writing, setting))

    def test_hundreds_of_columns_that_tell_nothing(self):
        for writing, expected in [(LADDER, True), (ODD, True), (WIDE, True), (NEVER, False)]:
            self.assertIs(has_filling(writing, [(None,)] * 300), expected)
        self.assertIs(has_filling((2, 4, (), (), (), ()), [(None, None)] * 300), True)
        self.assertIs(has_filling((2, 4, ((1,),), (), ((-1, 5),), ((-1,),)), [(None, None)] * 300), False)

    def test_hundreds_of_columns_that_tell_all(self):
        for places in ((), (0,), (299,), (150,), (0, 299), (149, 150), (7, 70, 99)):
            word = [(place in places,) for place in range(300)]
            self.assertIs(has_filling(LADDER, word), len(places) <= 1)
            self.assertIs(has_filling(ODD, word), len(places) % 2 == 1)

    def test_hundreds_of_columns_that_tell_some(self):
        for places in ((), (0,), (299,), (150,), (0, 299), (149, 150), (7, 70, 99)):
            setting = [(True if place in places else None,) for place in range(300)]
            self.assertIs(has_filling(LADDER, setting), len(places) <= 1)
            self.assertIs(has_filling(ODD, setting), True)
            self.assertIs(has_filling(NEVER, setting), False)
        for last in (False, True, None):
            setting = [(place == 5,) for place in range(299)] + [(last,)]
            self.assertIs(has_filling(ODD, setting), last is not True)
            setting = [(place in (5, 9),) for place in range(299)] + [(last,)]
            self.assertIs(has_filling(ODD, setting), last is not False)

    def test_by_name(self):
        self.assertIs(has_filling(setting=[(None,)], writing=LADDER), True)


class Words(unittest.TestCase):

    def test_document(self):
        self.assertEqual(words(LADDER, 2), [[(False,), (False,)], [(False,), (True,)], [(True,), (False,)]])

    def test_against_going_through_all_words(self):
        for writing, many in made(500):
            expected = [word for word in all_words(writing[0], many) if fillings(writing, word)]
            self.assertEqual(leaves_alone(self, words, writing, many), expected, writing)

    def test_up_to_twelve_entries(self):
        for inputs, many in [(1, many) for many in range(1, 13)] + [(2, many) for many in range(1, 7)]:
            with self.subTest(inputs=inputs, many=many):
                found = words((inputs, 3, (), (), (), ()), many)
                self.assertEqual(found, all_words(inputs, many))
                self.assertEqual(len(found), 2 ** (inputs * many))

    def test_some_with_twelve_entries(self):
        self.assertEqual(words(ODD, 12), [word for word in all_words(1, 12) if word.count((True,)) % 2 == 1])
        self.assertEqual(words(LADDER, 12), [word for word in all_words(1, 12) if word.count((True,)) <= 1])
        self.assertEqual(words(NEVER, 12), [])
        self.assertEqual(words(NEVER, 1), [])
        writing = (2, 3, ((-1, 3),), ((-2, -1),), ((-6, 3), (-4, -3)), ((3,),))
        found = [word for word in all_words(2, 6) if is_written(writing, word)]
        self.assertEqual(words(writing, 6), found)
        self.assertTrue(0 < len(found) < 4096)

    def test_in_order(self):
        for writing, many in [(WIDE, 5), (ODD, 6), (LADDER, 12), ((2, 2, (), ((-2, -1),), (), ()), 3)]:
            found = words(writing, many)
            for one, other in zip(found, found[1:]):
                self.assertTrue(is_less(one, other))

    def test_new_lists(self):
        for writing, many in [(FREE, 1), (LADDER, 2), (ODD, 6), ((2, 2, (), (), (), ()), 2)]:
            found, again = words(writing, many), words(writing, many)
            lists = [found, again] + found + again
            self.assertEqual(len({id(thing) for thing in lists}), len(lists))
            for word in found:
                word.append('more')
            self.assertEqual(again, words(writing, many))

    def test_kinds(self):
        self.assertEqual(repr(words(LADDER, 2)), '[[(False,), (False,)], [(False,), (True,)], [(True,), (False,)]]')

    def test_by_name(self):
        self.assertEqual(words(many=1, writing=LADDER), [[(False,)], [(True,)]])


class Errors(unittest.TestCase):

    def test_no_writing(self):
        for thing in strange_objects() + NO_WRITINGS:
            for function in (is_written, filling, how_many, has_filling):
                raises(self, InvalidWriting, function, thing, [(True,)])
            raises(self, InvalidWriting, words, thing, 1)

    def test_no_word(self):
        for function in (is_written, filling, how_many):
            for thing in strange_objects() + NO_WORDS:
                raises(self, InvalidWord, function, LADDER, thing)
            for thing in [[(None,)] * 300, [(True,)] * 299 + [(None,)], [(None,)] + [(True,)] * 299]:
                raises(self, InvalidWord, function, LADDER, thing)
            for thing in [[(True,)], [(True, None)], [(True, True, True)], [(True, True), (True,)], [(None, True)]]:
                raises(self, InvalidWord, function, (2, 3, (), (), (), ()), thing)

    def test_no_setting(self):
        for thing in strange_objects() + NO_SETTINGS:
            raises(self, InvalidSetting, has_filling, LADDER, thing)
        for thing in strange_objects() + [[(None,)], [(None, None, None)], [(None, None), (None,)]]:
            raises(self, InvalidSetting, has_filling, (2, 3, (), (), (), ()), thing)

    def test_no_number(self):
        for thing in [0, -1, -12, -LONG, True, False, None, '1', '', [1], [], (1,), (), {}, {1: 1}]:
            for writing in (LADDER, (2, 2, (), (), (), ())):
                raises(self, InvalidNumber, words, writing, thing)
        for thing in strange_objects():
            if thing.__class__ is not int or not 1 <= thing <= 12:
                raises(self, InvalidNumber, words, LADDER, thing)

    def test_more_than_twelve_entries(self):
        for many in (13, 14, 24, 300, 10 ** 20, LONG):
            raises(self, InvalidNumber, words, LADDER, many)
            raises(self, InvalidNumber, words, NEVER, many)
        for many in (7, 8, 12, 13, 300, LONG):
            raises(self, InvalidNumber, words, (2, 2, (), (), (), ()), many)
            raises(self, InvalidNumber, words, (2, 4, ((1,), (-1,)), (), (), ()), many)

    def test_invalid_writing_comes_first(self):
        for writing, thing in itertools.product([None, list(LADDER), []], [None, [], 0, True, 13, [(None,)], [(1,)]]):
            for function in (is_written, filling, how_many, has_filling, words):
                raises(self, InvalidWriting, function, writing, thing)


if __name__ == '__main__':
    unittest.main()
