"""Promises [9] and [21], and of [2] what belongs to them: all that is forced."""

import itertools
import unittest

from followrows.ends import ends_table, sees_ends
from followrows.forced import all_table, sees_all, shows_all, unseen
from followrows.right import is_right
from followrows.wishes import at_most
from tests.anything import leaves_alone, strange_objects, with_place
from tests.misfits import refuses_misfits
from tests.reference import LADDER, made_wishes, slow_forced
from tests.tables import (EVERY, FREE, HUNDREDS, HUNDREDS_TWO, JUST_ONE, NEAR, NEVER, NO_WORD, PARITY, SEEN_WHOLE,
                          SPLIT, TURNS, WISH_EVEN, WISH_JUST_ONE, WISH_NEAR, WISH_ONE, WISH_TURNS, all_forced,
                          changed, columns, ends_closed, groups, lets_forced, marks_closed, marks_needed, place_of,
                          sights, slow_all_table, slow_ends, slow_seen, slow_shows_all, some_states)

SEEN = SEEN_WHOLE + [(LADDER, WISH_ONE), (NEVER, EVERY), ((2, 2, (), (), (), ()), (2, ((0, 0, 0, 0),), (True,)))]
# Dead ends are seen, but not all that is forced.
ENDS_ALONE = [(SPLIT, WISH_ONE), ((1, 2, ((1, 2), (-2, 1)), (), (), ()), (1, ((2, 1), (1, 1), (2, 2)), (True, True, False)))]
FUNCTIONS = [unseen, sees_all, all_table]


class Unseen(unittest.TestCase):

    def test_document(self):
        self.assertEqual([is_right(SPLIT, at_most(1)), sees_ends(SPLIT, at_most(1)), unseen(SPLIT, at_most(1)),
                          sees_all(LADDER, at_most(1))], [True, True, [(None,), (True,)], True])

    def test_against_following_of_all_settings(self):
        for writings, wishes, most in groups(7000):
            told = [all_forced(wish, most) for wish in wishes]
            for writing in writings:
                seen = sights(writing, most)
                for wish, forced in zip(wishes, told):
                    least = [setting for (setting, sight), other in zip(seen, forced)
                             if not lets_forced(setting, sight, other)][:1]
                    self.check(writing, wish, least, most)

    def check(self, writing, wish, least, most):
        """Fail unless what is unseen is the least one among the short ones, or else is a longer one."""
        found = leaves_alone(self, unseen, writing, wish)
        self.assertIs(leaves_alone(self, sees_all, writing, wish), found is None)
        if least:
            self.assertEqual([found], least, (writing, wish))
        elif found is None:
            self.assertIsNotNone(slow_all_table(writing, wish))
        else:
            self.assertGreater(len(found), most)
            self.assertFalse(lets_forced(found, slow_seen(writing, found), slow_forced(wish, found)))

    def test_none_where_all_is_seen(self):
        for writing, wish in SEEN:
            self.assertIsNone(unseen(writing, wish))
            self.assertIs(sees_all(writing, wish), True)

    def test_dead_ends_alone(self):
        for writing, wish in ENDS_ALONE:
            self.assertIs(sees_ends(writing, wish), True)
            self.assertIs(sees_all(writing, wish), False)
            self.assertIsNotNone(unseen(writing, wish))

    def test_forced_in_the_first_and_in_the_last_column(self):
        # The helper of a column, and both columns, tell what is forced, but following does not.
        last_true = (1, ((0, 1), (0, 1)), (False, True))
        writing = (1, 2, (), (), (), ((1, 2), (-2, 1)))
        self.assertEqual(unseen(writing, last_true), [(None,)])
        first_true = (1, ((2, 1), (1, 1), (2, 2)), (False, True, False))
        writing = (1, 2, ((1, 2), (-2, 1)), (), (), ())
        self.assertEqual(unseen(writing, first_true), [(None,)])
        self.assertIsNone(unseen((1, 1, ((1,),), (), (), ()), first_true))

    def test_told_otherwise_than_forced(self):
        # All columns are told to be False, but wished are words in which all are True.
        all_true = (1, ((1, 0), (1, 1)), (True, False))
        self.assertEqual(unseen((1, 1, (), ((-1,),), (), ()), all_true), [(None,)])
        self.assertIsNone(unseen((1, 1, (), ((1,),), (), ()), all_true))
        # Only the last one is told, and it is the same in all words.
        all_like = (1, ((1, 2), (1, 3), (3, 2), (3, 3)), (True, True, True, False))
        writing = (1, 1, (), (), (), ((-1,),))
        least = [setting for setting, sight in sights(writing, 3)
                 if not lets_forced(setting, sight, slow_forced(all_like, setting))][:1]
        self.check(writing, all_like, least, 3)

    def test_long_settings(self):
        # Once there are as many True as may be, all else is forced to be False.
        for most in range(1, 7):
            steps = tuple((state, min(state + 1, most + 1)) for state in range(most + 2))
            wish = (1, steps, (True,) * (most + 1) + (False,))
            self.assertEqual(unseen(FREE, wish), [(None,)] + [(True,)] * most)

    def test_writings_with_hundreds_of_standings(self):
        for writing, most in ((HUNDREDS, 4), (HUNDREDS_TWO, 2)):
            seen = sights(writing, most)
            for wish in made_wishes(writing[0], 12, 2, seed=5) + made_wishes(writing[0], 3, 4, seed=6):
                least = [setting for (setting, sight), other in zip(seen, all_forced(wish, most))
                         if not lets_forced(setting, sight, other)][:1]
                self.check(writing, wish, least, most)

    def test_new_lists(self):
        one, other = unseen(SPLIT, WISH_ONE), unseen(SPLIT, WISH_ONE)
        self.assertIsNot(one, other)
        one.clear()
        self.assertEqual(unseen(SPLIT, WISH_ONE), other)

    def test_by_name(self):
        self.assertEqual(unseen(wish=NO_WORD, writing=FREE), [(None,)])
        self.assertIs(sees_all(wish=NO_WORD, writing=FREE), False)


class AllTable(unittest.TestCase):

    def test_document(self):
        self.assertIsNone(all_table(SPLIT, at_most(1)))
        self.assertEqual([len(part) for part in all_table(FREE, EVERY)], [3, 3])

    def test_against_what_must_be_there(self):
        for writings, wishes, _ in groups(8000):
            for writing, wish in itertools.product(writings, wishes):
                expected = slow_all_table(writing, wish)
                self.assertEqual(leaves_alone(self, all_table, writing, wish), expected, (writing, wish))

    def test_seen(self):
        for writing, wish in SEEN:
            table = all_table(writing, wish)
            self.assertEqual(table, slow_all_table(writing, wish))
            self.assertEqual(table[0], ends_table(writing, wish))
            self.assertEqual([table.__class__, table[0].__class__, table[1].__class__], [tuple, list, list])
            self.assertIs(shows_all(writing, wish, table), True)

    def test_free(self):
        marks = [(column, (0,), (0,)) for column in columns(1)]
        self.assertEqual(all_table(FREE, EVERY), ([mark[:2] for mark in marks], marks))
        self.assertEqual(all_table(NEVER, NO_WORD), ([], []))
        self.assertIsNone(all_table(FREE, NO_WORD))

    def test_ascending(self):
        wish = made_wishes(1, 4, 1, seed=3)[0][:2] + ((True,) * 4,)
        for writing in [FREE, LADDER]:
            ends, marks = all_table(writing, wish)
            self.assertEqual(marks, sorted(marks, key=lambda mark: (place_of(mark[0]), mark[1:])))
            self.assertGreater(len(marks), len(ends))

    def test_dead_ends_alone(self):
        for writing, wish in ENDS_ALONE:
            self.assertIsNotNone(ends_table(writing, wish))
            self.assertIsNone(all_table(writing, wish))

    def test_new_lists(self):
        one, other = all_table(LADDER, WISH_ONE), all_table(LADDER, WISH_ONE)
        lists = [*one, *other]
        self.assertEqual(len({id(thing) for thing in lists}), 4)
        one[0].clear()
        one[1].clear()
        self.assertEqual(all_table(LADDER, WISH_ONE), other)
        one = all_table(NEVER, NO_WORD)
        self.assertIsNot(one[0], one[1])

    def test_by_name(self):
        self.assertEqual(all_table(wish=NO_WORD, writing=NEVER), ([], []))


class ShowsAll(unittest.TestCase):

    def check(self, writing, wish, thing):
        """Fail unless shows_all tells what there is to tell of an object; return it."""
        shown = leaves_alone(self, shows_all, writing, wish, thing)
        self.assertIs(shown, slow_shows_all(writing, wish, thing), (writing, wish, thing))
        return shown

    def test_document(self):
        self.assertIs(shows_all(FREE, EVERY, all_table(FREE, EVERY)), True)

    def test_tables(self):
        for writings, wishes, _ in groups(9000):
            for writing, wish in itertools.product(writings[:14], wishes[:14]):
                ends = slow_ends(writing, wish)
                marks = marks_closed(writing, wish, marks_needed(writing, wish, ends))
                shown = self.check(writing, wish, (ends, marks))
                self.assertIs(shown, sees_all(writing, wish))

    def test_tables_in_any_order(self):
        for writing, wish in SEEN:
            ends, marks = all_table(writing, wish)
            for place in range(len(marks)):
                turned = ends[::-1] if place < len(marks) // 2 else ends
                self.assertIs(shows_all(writing, wish, (turned, marks[place:] + marks[:place])), True)
                self.assertIs(shows_all(writing, wish, (turned, marks[place:] + marks[:place][::-1])), True)

    def test_lists_for_tuples(self):
        for writing, wish in SEEN:
            ends, marks = all_table(writing, wish)
            for thing in ([ends, marks], (ends, marks, []), (ends,), (), (tuple(ends), marks), (ends, tuple(marks)),
                          (marks, ends) if ends else None, {0: ends, 1: marks}, ends, marks, ends + marks, None):
                self.assertIs(shows_all(writing, wish, thing), False)

    def test_changed_tables(self):
        for writing, wish in [(LADDER, WISH_ONE), (FREE, EVERY), (PARITY, WISH_EVEN), (TURNS, WISH_TURNS)]:
            ends, marks = all_table(writing, wish)
            for thing in changed(ends):
                self.check(writing, wish, (thing, marks))
            for thing in changed(marks):
                self.check(writing, wish, (ends, thing))
            for place in range(len(marks)):
                self.assertIs(shows_all(writing, wish, (ends, marks[:place] + marks[place + 1:])), False)
                self.assertIs(shows_all(writing, wish, (ends, marks + marks[place:place + 1])), False)

    def test_more_triples(self):
        shown = []
        for writing, wish in [(LADDER, WISH_ONE), (PARITY, WISH_EVEN), (NEVER, NO_WORD), (JUST_ONE, WISH_JUST_ONE)]:
            ends, marks = all_table(writing, wish)
            for triple in itertools.product(columns(writing[1]), some_states(wish)[::2], some_states(wish)):
                more = [new for new in marks_closed(writing, wish, [triple]) if new not in marks]
                shown += [self.check(writing, wish, (ends, marks + [triple])),
                          self.check(writing, wish, (ends, marks + more)),
                          self.check(writing, wish, (ends, more[::-1] + marks))]
        self.assertGreater(shown.count(True), 200)
        self.assertGreater(shown.count(False), 200)

    def test_more_pairs_of_ends(self):
        shown = []
        for writing, wish in [(LADDER, WISH_ONE), (PARITY, WISH_EVEN), (NEVER, NO_WORD), (NEAR, WISH_NEAR)]:
            ends, marks = all_table(writing, wish)
            for pair in itertools.product(columns(writing[1]), some_states(wish)):
                more = ends + [new for new in ends_closed(writing, wish, [pair]) if new not in ends]
                whole = marks_closed(writing, wish, marks + marks_needed(writing, wish, more))
                shown += [self.check(writing, wish, (more, marks)), self.check(writing, wish, (more, whole)),
                          self.check(writing, wish, (ends, whole)), self.check(writing, wish, (ends + [pair], whole))]
        self.assertGreater(shown.count(True), 100)
        self.assertGreater(shown.count(False), 100)

    def test_states_that_are_none(self):
        ends, marks = all_table(LADDER, WISH_ONE)
        for place, (column, states, others) in enumerate(marks):
            for other in (list(states), states + states[-1:], (-1,) + states, states + (3,), (True,), (None,), 0, None,
                          (0, False), ('0',), (states,)):
                for triple in ((column, other, others), (column, states, other), (other, states, others)):
                    self.assertIs(shows_all(LADDER, WISH_ONE, (ends, with_place(marks, place, triple))), False)
                    self.check(LADDER, WISH_ONE, (ends, marks + [triple]))

    def test_strange_objects(self):
        for writing, wish in [(LADDER, WISH_ONE), (TURNS, WISH_TURNS), (NEVER, NO_WORD)]:
            ends, marks = all_table(writing, wish)
            column = (None,) * writing[1]
            for thing in strange_objects():
                self.assertIs(leaves_alone(self, shows_all, writing, wish, thing), False)
                for within in ((thing, marks), (ends, thing), (thing, thing), (ends, marks, thing), (ends + [thing], marks),
                               (ends, marks + [thing]), (ends, [thing] + marks), (ends + [(column, thing)], marks),
                               (ends, marks + [(thing, (0,), (0,))]), (ends, marks + [(column, thing, (0,))]),
                               (ends, marks + [(column, (0,), thing)]), (ends, marks + [(column, (0,), (thing,))]),
                               (ends, marks + [((thing,) * writing[1], (0,), (0,))]), [ends, thing]):
                    self.check(writing, wish, within)

    def test_by_name(self):
        self.assertIs(shows_all(thing=([], []), wish=NO_WORD, writing=NEVER), True)


class Errors(unittest.TestCase):

    def test_misfits(self):
        for function in FUNCTIONS:
            refuses_misfits(self, function)
        for thing in (([], []), None, []):
            refuses_misfits(self, shows_all, thing)


if __name__ == '__main__':
    unittest.main()
