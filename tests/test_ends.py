"""Promises [9] and [20], and of [2] what belongs to them: dead ends."""

import itertools
import unittest

from followrows.ends import ends_table, sees_ends, shows_ends, unseen_end
from followrows.wishes import at_most
from tests.anything import leaves_alone, strange_objects, with_place
from tests.misfits import refuses_misfits
from tests.reference import LADDER, made_wishes, slow_forced
from tests.tables import (EVERY, FREE, HUNDREDS, HUNDREDS_TWO, JUST_ONE, NEVER, NO_WORD, PARITY, SEEN_WHOLE, SHORT,
                          SPLIT, TURNS, WISH_COUNTER, WISH_EVEN, WISH_JUST_ONE, WISH_ONE, WISH_TURNS, all_forced,
                          changed, columns, ends_closed, ends_in_order, groups, sights, slow_ends, slow_ends_table,
                          slow_seen, slow_shows_ends, some_states)

SEEN = SEEN_WHOLE + [(LADDER, WISH_ONE), (SPLIT, WISH_ONE), (LADDER, WISH_COUNTER), (NEVER, EVERY), (PARITY, EVERY)]
FUNCTIONS = [unseen_end, sees_ends, ends_table]


def counting(most):
    """Return the wish of one input for words with at most so many True."""
    steps = tuple((state, min(state + 1, most + 1)) for state in range(most + 2))
    return 1, steps, (True,) * (most + 1) + (False,)


class UnseenEnd(unittest.TestCase):

    def test_document(self):
        self.assertEqual([sees_ends(LADDER, at_most(1)), unseen_end(SHORT, at_most(1)), sees_ends(SPLIT, at_most(1))],
                         [True, [(True,), (None,), (True,)], True])

    def test_against_following_of_all_settings(self):
        for writings, wishes, most in groups(4000):
            told = [all_forced(wish, most) for wish in wishes]
            for writing in writings:
                seen = sights(writing, most)
                for wish, forced in zip(wishes, told):
                    least = [setting for (setting, sight), other in zip(seen, forced)
                             if sight is not None and other is None][:1]
                    self.check(writing, wish, least, most)

    def check(self, writing, wish, least, most):
        """Fail unless the unseen end is the least one among the short ones, or else is a longer one."""
        found = leaves_alone(self, unseen_end, writing, wish)
        self.assertIs(leaves_alone(self, sees_ends, writing, wish), found is None)
        if least:
            self.assertEqual([found], least, (writing, wish))
        elif found is None:
            self.assertIsNotNone(slow_ends_table(writing, wish))
        else:
            self.assertGreater(len(found), most)
            self.assertIsNotNone(slow_seen(writing, found))
            self.assertIsNone(slow_forced(wish, found))

    def test_none_where_dead_ends_are_seen(self):
        for writing, wish in SEEN:
            self.assertIsNone(unseen_end(writing, wish))
            self.assertIs(sees_ends(writing, wish), True)

    def test_long_settings(self):
        for most in range(1, 7):
            self.assertEqual(unseen_end(FREE, counting(most)), [(True,)] * (most + 1))
            self.assertEqual(unseen_end((1, 3, (), (), (), ()), counting(most)), [(True,)] * (most + 1))
        # Only every second column may be True.
        self.assertEqual(unseen_end((1, 1, (), (), ((-2, -1),), ()), counting(4)), [(True,), (None,)] * 4 + [(True,)])

    def test_just_one(self):
        self.assertEqual(unseen_end(LADDER, WISH_JUST_ONE), [(False,)])
        self.assertIsNone(unseen_end(JUST_ONE, WISH_JUST_ONE))
        self.assertEqual(unseen_end(FREE, NO_WORD), [(None,)])

    def test_writings_with_hundreds_of_standings(self):
        for writing, most in ((HUNDREDS, 4), (HUNDREDS_TWO, 2)):
            seen = sights(writing, most)
            for wish in made_wishes(writing[0], 12, 4, seed=5) + made_wishes(writing[0], 3, 4, seed=6):
                least = [setting for (setting, sight), other in zip(seen, all_forced(wish, most))
                         if sight is not None and other is None][:1]
                self.check(writing, wish, least, most)

    def test_new_lists(self):
        one, other = unseen_end(SHORT, WISH_ONE), unseen_end(SHORT, WISH_ONE)
        self.assertIsNot(one, other)
        one.clear()
        self.assertEqual(unseen_end(SHORT, WISH_ONE), other)

    def test_by_name(self):
        self.assertEqual(unseen_end(wish=NO_WORD, writing=FREE), [(None,)])
        self.assertIs(sees_ends(wish=NO_WORD, writing=FREE), False)


class EndsTable(unittest.TestCase):

    def test_document(self):
        self.assertEqual(len(ends_table(LADDER, at_most(1))), 13)

    def test_against_what_must_be_there(self):
        for writings, wishes, _ in groups(5000):
            for writing, wish in itertools.product(writings, wishes):
                expected = slow_ends_table(writing, wish)
                self.assertEqual(leaves_alone(self, ends_table, writing, wish), expected, (writing, wish))

    def test_seen(self):
        for writing, wish in SEEN:
            table = ends_table(writing, wish)
            self.assertEqual(table, slow_ends_table(writing, wish))
            self.assertIs(shows_ends(writing, wish, table), True)

    def test_ascending(self):
        wish = made_wishes(1, 5, 1, seed=3)[0][:2] + ((True,) * 5,)
        for writing in [FREE, LADDER, (1, 3, (), (), (), ())]:
            table = ends_table(writing, wish)
            self.assertEqual(table, ends_in_order(table))
            self.assertGreater(len({states for _, states in table}), 5)

    def test_no_settled_rows(self):
        self.assertEqual(ends_table(NEVER, NO_WORD), [])
        self.assertIs(shows_ends(NEVER, NO_WORD, []), True)
        self.assertEqual(ends_table((1, 1, (), (), (), ((1,), (-1,))), NO_WORD), [
            ((None,), (0,)), ((False,), (0,)), ((True,), (0,))])

    def test_new_lists(self):
        one, other = ends_table(LADDER, WISH_ONE), ends_table(LADDER, WISH_ONE)
        self.assertIsNot(one, other)
        one.clear()
        self.assertEqual(ends_table(LADDER, WISH_ONE), other)

    def test_by_name(self):
        self.assertEqual(ends_table(wish=NO_WORD, writing=NEVER), [])


class ShowsEnds(unittest.TestCase):

    def check(self, writing, wish, thing):
        """Fail unless shows_ends tells what there is to tell of an object; return it."""
        shown = leaves_alone(self, shows_ends, writing, wish, thing)
        self.assertIs(shown, slow_shows_ends(writing, wish, thing), (writing, wish, thing))
        return shown

    def test_document(self):
        self.assertIs(shows_ends(LADDER, at_most(1), ends_table(LADDER, at_most(1))[:-1]), False)

    def test_tables(self):
        for writings, wishes, _ in groups(6000):
            for writing, wish in itertools.product(writings[:16], wishes):
                shown = self.check(writing, wish, slow_ends(writing, wish))
                self.assertIs(shown, sees_ends(writing, wish))

    def test_tables_in_any_order(self):
        for writing, wish in SEEN:
            table = ends_table(writing, wish)
            for place in range(len(table)):
                self.assertIs(shows_ends(writing, wish, table[place:] + table[:place]), True)
                self.assertIs(shows_ends(writing, wish, table[place:] + table[:place][::-1]), True)

    def test_changed_tables(self):
        for writing, wish in [(LADDER, WISH_ONE), (FREE, EVERY), (PARITY, WISH_EVEN), (TURNS, WISH_TURNS)]:
            table = ends_table(writing, wish)
            for thing in changed(table):
                self.check(writing, wish, thing)
            for place in range(len(table)):
                self.assertIs(shows_ends(writing, wish, table[:place] + table[place + 1:]), False)
                self.assertIs(shows_ends(writing, wish, table + table[place:place + 1]), False)

    def test_more_pairs(self):
        shown = []
        for writing, wish in [(LADDER, WISH_ONE), (PARITY, WISH_EVEN), (NEVER, NO_WORD), (TURNS, WISH_TURNS),
                              (JUST_ONE, WISH_JUST_ONE)]:
            table = ends_table(writing, wish)
            for pair in itertools.product(columns(writing[1]), some_states(wish)):
                more = ends_closed(writing, wish, [pair])
                shown += [self.check(writing, wish, table + [pair]),
                          self.check(writing, wish, table + [new for new in more if new not in table]),
                          self.check(writing, wish, [new for new in more if new not in table] + table[::-1])]
        self.assertGreater(shown.count(True), 200)
        self.assertGreater(shown.count(False), 200)

    def test_columns_and_states_that_are_none(self):
        for writing, wish in [(LADDER, WISH_ONE), (TURNS, WISH_TURNS)]:
            table = ends_table(writing, wish)
            for place, (column, states) in enumerate(table):
                for other in (list(states), states + states[-1:], states[::-1] + (0,), (-1,) + states, states + (4,),
                              (True,), (False,), (None,), ('0',), 0, None, states + (10 ** 20,), (states,)):
                    self.assertIs(shows_ends(writing, wish, with_place(table, place, (column, other))), False)
                    self.check(writing, wish, table + [(column, other)])
                for other in (list(column), column[:-1], column + (None,), column[:-1] + (0,), column[:-1] + (1,),
                              column[:-1] + ('?',), (column,), None, 0, ()):
                    self.assertIs(shows_ends(writing, wish, with_place(table, place, (other, states))), False)
                    self.check(writing, wish, table + [(other, states)])

    def test_ones_and_zeros_for_bools(self):
        table = ends_table((1, 1, (), ((-1,),), (), ()), EVERY)
        self.assertEqual(table, [((False,), (0,))])
        self.assertIs(shows_ends((1, 1, (), ((-1,),), (), ()), EVERY, [((0,), (0,))]), False)
        self.assertIs(shows_ends((1, 1, (), ((-1,),), (), ()), EVERY, [((False,), (False,))]), False)

    def test_strange_objects(self):
        for writing, wish in [(LADDER, WISH_ONE), (TURNS, WISH_TURNS), (NEVER, NO_WORD)]:
            table = ends_table(writing, wish)
            column = (None,) * writing[1]
            for thing in strange_objects():
                self.assertIs(leaves_alone(self, shows_ends, writing, wish, thing), thing == [] == table)
                for within in ([thing], table + [thing], [thing] + table, with_place(table, 0, thing) if table else thing,
                               table + [(thing, (0,))], table + [(column, thing)], table + [(thing, thing)],
                               table + [((thing,) * writing[1], (0,))], table + [(column, (thing,))], (table, thing),
                               table + [(column, (0, thing))], table + [(column, (0,), thing)]):
                    self.check(writing, wish, within)

    def test_by_name(self):
        self.assertIs(shows_ends(thing=[], wish=NO_WORD, writing=NEVER), True)


class Errors(unittest.TestCase):

    def test_misfits(self):
        for function in FUNCTIONS:
            refuses_misfits(self, function)
        for thing in ([], None, [((None,), (0,))]):
            refuses_misfits(self, shows_ends, thing)


if __name__ == '__main__':
    unittest.main()
