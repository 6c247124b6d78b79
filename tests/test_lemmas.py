"""Promise [25], and of [2] what belongs to it: lemmas."""

import itertools
import unittest

from followrows.errors import InvalidClause, InvalidWriting
from followrows.lemmas import broken_at, holds, is_followed, is_kept
from tests.anything import LONG, leaves_alone, raises, strange_objects
from tests.reference import LADDER, NO_WRITINGS, all_clauses, all_rows, made_writings
from tests.tables import (COUNTER, FREE, HUNDREDS, HUNDREDS_TWO, JUST_ONE, NEAR, NEVER, PARITY, SPLIT, TURNS, columns,
                          is_idle, slow_followers, slow_is_end, slow_is_settled, slow_starts)

FUNCTIONS = [holds, is_followed, is_kept, broken_at]
# They have no settled row of two columns in which all signs are told: none at all, none of so many, none all told.
NO_ROWS = [NEVER, (1, 1, (), (), (), ((1,), (-1,))), (1, 1, (), (), ((1,), (-1,)), ()), (1, 1, ((1,),), (), ((-1,),), ()),
           (1, 2, (), ((1, 2), (-2, 1), (-1, 2), (-2, -1)), (), ()),
           (1, 2, (), (), (), ((1, 2), (-2, 1), (-1, 2), (-2, -1)))]


def is_broken(lemma, entries):
    """Return whether all literals of a lemma are false."""
    return all(entries[abs(literal) - 1] is (literal < 0) for literal in lemma)


def slow_shortest(writing, only_full, shows):
    """Return the number of columns of the shortest settled row in which two neighbouring columns show something.

    None if there is none. Goes from columns to columns, with what was shown already, until nothing new comes.
    """
    layer = {(column, False) for column in slow_starts(writing) if not only_full or None not in column}
    many = 1
    known = set()
    while layer - known:
        known |= layer
        if any(shown and slow_is_end(writing, column) for column, shown in layer):
            return many
        layer = {(after, shown or shows(column + after)) for column, shown in layer
                 for after in slow_followers(writing, column) if not only_full or None not in after}
        many += 1
    return None


class Lemmas(unittest.TestCase):

    def check(self, writing, lemma):
        """Fail unless all functions tell of a lemma what there is to tell; return what they return."""
        broken = slow_shortest(writing, True, lambda entries: is_broken(lemma, entries))
        self.assertIs(leaves_alone(self, holds, writing, lemma), broken is None, (writing, lemma))
        any_broken = slow_shortest(writing, False, lambda entries: is_broken(lemma, entries))
        self.assertIs(leaves_alone(self, is_followed, writing, lemma), any_broken is None, (writing, lemma))
        left = slow_shortest(writing, False, lambda entries: not is_idle(lemma, entries))
        self.assertIs(leaves_alone(self, is_kept, writing, lemma), left is None, (writing, lemma))
        self.check_broken(writing, lemma, broken)
        return broken is None, any_broken is None, left is None

    def check_broken(self, writing, lemma, many):
        """Fail unless broken_at returns a row of so many columns, or None, as it should."""
        found = leaves_alone(self, broken_at, writing, lemma)
        if many is None:
            self.assertIsNone(found)
            return
        self.assertEqual([found.__class__, len(found), found[0].__class__, found[1].__class__], [tuple, 2, list, int])
        row, place = found
        self.assertEqual(len(row), many)
        for column in row:
            self.assertEqual([column.__class__, len(column)], [tuple, writing[1]])
            self.assertTrue(all(entry is True or entry is False for entry in column))
        self.assertTrue(slow_is_settled(writing, row))
        self.assertTrue(0 <= place < many - 1)
        self.assertTrue(is_broken(lemma, row[place] + row[place + 1]))

    def test_document(self):
        self.assertEqual([holds(SPLIT, (-4, -2)), is_followed(SPLIT, (-4, -2)), is_kept(SPLIT, (-4, -2)),
                          is_kept(LADDER, (-3, -1))], [True, True, False, True])
        self.assertEqual(broken_at(LADDER, (1, 2, 3, 4)), ([(False, False), (False, False)], 0))

    def test_against_all_settled_rows(self):
        # Six columns are enough for one sign: each column comes twice at most in a shortest row.
        for writing in [FREE, NEAR, NEVER] + made_writings(1, 1, 12, seed=1, clauses=2):
            rows = [row for many in range(2, 7) for row in all_rows(1, many) if slow_is_settled(writing, row)]
            pairs = [(row, one + other) for row in rows for one, other in zip(row, row[1:])]
            for lemma in all_clauses(2, 2):
                broken = [len(row) for row, pair in pairs if is_broken(lemma, pair)]
                full = [len(row) for row, pair in pairs if is_broken(lemma, pair) and (None,) not in row]
                self.assertIs(holds(writing, lemma), not full)
                self.assertIs(is_followed(writing, lemma), not broken)
                self.assertIs(is_kept(writing, lemma), all(is_idle(lemma, pair) for _, pair in pairs))
                self.check_broken(writing, lemma, min(full, default=None))

    def test_against_going_from_column_to_column(self):
        found = []
        for writing in [LADDER, JUST_ONE, PARITY, SPLIT, COUNTER, TURNS] + NO_ROWS:
            for lemma in all_clauses(2 * writing[1], 3)[::3]:
                found.append(self.check(writing, lemma))
        for inputs, size in [(1, 2), (2, 2), (1, 3), (2, 3), (2, 4)]:
            for writing in made_writings(inputs, size, 8 if size < 4 else 2, seed=90 + size):
                lemmas = all_clauses(2 * size, 4)
                for lemma in lemmas[::1 + len(lemmas) // 25]:
                    found.append(self.check(writing, lemma))
        # All that can be true at once comes.
        self.assertEqual(set(found), {(False, False, False), (True, False, False), (True, True, False), (True, True, True)})

    def test_clauses_of_nexts(self):
        for writing in [LADDER, JUST_ONE, PARITY, SPLIT, COUNTER, HUNDREDS, HUNDREDS_TWO]:
            for clause in writing[4]:
                for function in (holds, is_followed, is_kept):
                    self.assertIs(function(writing, clause), True)
                self.assertIsNone(broken_at(writing, clause))

    def test_signs_of_one_column(self):
        for writing in [LADDER, JUST_ONE, PARITY, SPLIT, TURNS, HUNDREDS]:
            size = writing[1]
            for clause in all_clauses(size, 2):
                self.check(writing, clause)
                self.check(writing, tuple(literal + size if literal > 0 else literal - size for literal in clause))
            for clause in writing[3]:
                self.assertIs(is_kept(writing, clause), True)
                behind = tuple(literal + size if literal > 0 else literal - size for literal in clause)
                self.assertIs(is_kept(writing, behind), True)

    def test_first_and_last_columns(self):
        # True in the first column and False in the last one, in between what there may be.
        writing = (1, 1, ((1,),), (), (), ((-1,),))
        self.assertEqual(broken_at(writing, (-1, 2)), ([(True,), (False,)], 0))
        row, place = broken_at(writing, (1, 2))
        self.assertEqual([row, place], [[(True,), (False,), (False,)], 1])
        row, place = broken_at(writing, (-2, -1))
        self.assertEqual([row, place], [[(True,), (True,), (False,)], 0])
        row, place = broken_at(writing, (-2, 1))
        self.assertEqual([row, place], [[(True,), (False,), (True,), (False,)], 1])

    def test_no_settled_row_of_two_columns_in_which_all_is_told(self):
        for writing in NO_ROWS:
            for lemma in all_clauses(2 * writing[1], 2):
                self.assertIs(holds(writing, lemma), True)
                self.assertIsNone(broken_at(writing, lemma))
                self.check(writing, lemma)

    def test_one_column_alone_breaks_nothing(self):
        # Rows of one column are settled, but longer ones are not.
        writing = (1, 1, (), (), ((1,), (-1,)), ())
        self.assertTrue(slow_is_settled(writing, [(False,)]))
        for lemma in all_clauses(2, 2):
            self.assertEqual([holds(writing, lemma), is_followed(writing, lemma), is_kept(writing, lemma)], [True] * 3)

    def test_long_rows(self):
        # Two helpers count to four from the first column on, so that the lemma breaks at the fourth one.
        counting = ((-5, -2), (2, 5), (-6, 2, 3), (-6, -3, -2), (-2, 3, 6), (-3, 2, 6))
        writing = (1, 3, ((-2,), (-3,)), (), counting, ((1,),))
        row, place = broken_at(writing, (-3, -2))
        self.assertEqual([len(row), place], [5, 3])
        self.check_broken(writing, (-3, -2), 5)
        self.check_broken(writing, (-6, -5), 4)
        self.check_broken(writing, (-6, -5, 1), 4)
        self.check_broken(writing, (-4, -3, -2, 5), 5)
        self.check_broken(writing, (-5, -3, -2), None)

    def test_told_only_where_nothing_else_is(self):
        for column in columns(1):
            self.assertIs(is_kept(FREE, (1, 2)), False)
            self.assertIs(is_idle((1, 2), column + (None,)), column != (False,))
        self.assertEqual([holds(FREE, (1,)), is_followed(FREE, (1,)), is_kept(FREE, (1,))], [False] * 3)
        self.assertEqual([holds(NEVER, (1,)), is_followed(NEVER, (1,)), is_kept(NEVER, (1,))], [True] * 3)

    def test_new_lists(self):
        one, other = broken_at(LADDER, (1, 2, 3, 4)), broken_at(LADDER, (1, 2, 3, 4))
        self.assertIsNot(one[0], other[0])
        one[0].clear()
        self.assertEqual(broken_at(LADDER, (1, 2, 3, 4)), other)

    def test_by_name(self):
        for function in (holds, is_followed, is_kept):
            self.assertIs(function(lemma=(-3, -1), writing=LADDER), True)
        self.assertIsNone(broken_at(lemma=(-3, -1), writing=LADDER))


class Errors(unittest.TestCase):

    def test_no_writing(self):
        for thing in strange_objects() + NO_WRITINGS:
            for function, lemma in itertools.product(FUNCTIONS, [(1,), (), None]):
                raises(self, InvalidWriting, function, thing, lemma)

    def test_no_lemma(self):
        things = [(), (0,), (5,), (-5,), (1, 2, 3, 4, 5), (1, 1), (-1, 1), (2, 1), (1, -2), [1], [-3, -1], (True,), (1, None),
                  ('1',), ((1,),), 1, -1, None, '', 'a', {}, {1: 1}, (LONG,), [(1,)]]
        for thing in things + strange_objects():
            for function in FUNCTIONS:
                raises(self, InvalidClause, function, LADDER, thing)

    def test_twice_as_many_signs(self):
        for inputs, size in [(1, 1), (1, 2), (2, 3), (2, 4)]:
            writing = (inputs, size, (), (), (), ())
            for function in FUNCTIONS:
                for sign in range(1, 2 * size + 1):
                    function(writing, (sign,))
                    function(writing, (-sign,))
                for sign in (2 * size + 1, 2 * size + 2, 16):
                    raises(self, InvalidClause, function, writing, (sign,))
                    raises(self, InvalidClause, function, writing, (-sign, 1))


if __name__ == '__main__':
    unittest.main()
