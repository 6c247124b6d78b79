"""Promises [11] and [23], and of [2] what belongs to them: writings alike."""

import itertools
import unittest

from followrows.alike import are_alike, is_closed, parting, sees_more
from followrows.errors import InvalidMatch, InvalidSetting, InvalidWriting
from tests.anything import leaves_alone, raises, strange_objects, with_place
from tests.reference import LADDER, NO_WRITINGS, all_rows, made_writings
from tests.tables import (COUNTER, FREE, HUNDREDS, HUNDREDS_TWO, KNOWN, KNOWN_TWO, NEAR, NEVER, PARITY, SPLIT, TURNS,
                          groups, settings_up_to, sights, slow_seen, tells)

# They have no settled row, an entry of theirs that is told and broken, and no row of two columns.
DEAD = [NEVER, (1, 2, ((2,), (-2,)), (), (), ()), (1, 1, (), (), (), ((1,), (-1,))), (1, 3, (), ((3,),), (), ((-3,),))]
NO_SETTINGS = [(), [], ((True,),), [(None, None)], [(True, True)], [(True,), (None, None)], [[None]], [(1,)],
               [(None,), (0,)], [None], ['?'], {0: (None,)}]


def is_more(sight, other):
    """Return whether a sight of a setting tells at least what another one tells."""
    return sight is None or (other is not None and tells(sight, other))


class Parting(unittest.TestCase):

    def test_document(self):
        self.assertEqual([parting(LADDER, SPLIT), sees_more(LADDER, SPLIT), sees_more(SPLIT, LADDER),
                          are_alike(LADDER, LADDER)], [[(None,), (True,)], True, False, True])

    def test_against_what_both_see_of_all_settings(self):
        for writings, _, most in groups(12000):
            seen = [(writing, sights(writing, most)) for writing in writings]
            for (one, own), (other, others) in itertools.product(seen, repeat=2):
                least = [setting for (setting, sight), (_, mate) in zip(own, others) if sight != mate][:1]
                self.check(one, other, least, most)
                less = [setting for (setting, sight), (_, mate) in zip(own, others) if not is_more(sight, mate)][:1]
                more = leaves_alone(self, sees_more, one, other)
                if not less and not more:
                    # There must be a longer one then.
                    less = [setting for setting in settings_up_to(one[0], 7)
                            if not is_more(slow_seen(one, setting), slow_seen(other, setting))][:1]
                self.assertIs(more, not less, (one, other))

    def check(self, one, other, least, most):
        """Fail unless the parting setting is the least one among the short ones, or else is a longer one."""
        found = leaves_alone(self, parting, one, other)
        self.assertIs(leaves_alone(self, are_alike, one, other), found is None)
        if least:
            self.assertEqual([found], least, (one, other))
        elif found is not None:
            self.assertGreater(len(found), most)
            self.assertNotEqual(slow_seen(one, found), slow_seen(other, found))

    def test_itself(self):
        for writing in KNOWN + KNOWN_TWO + [HUNDREDS, HUNDREDS_TWO]:
            self.assertIsNone(parting(writing, writing))
            self.assertIs(are_alike(writing, writing), True)
            self.assertIs(sees_more(writing, writing), True)

    def test_unlike_numbers_of_helpers(self):
        for size in (1, 2, 3):
            for other in (1, 2, 3):
                self.assertIsNone(parting((1, size, (), (), (), ()), (1, other, (), (), (), ())))
        self.assertIsNone(parting(NEAR, (1, 3, ((2,), (-3, 1)), ((2, 3),), ((-4, -1),), ())))
        # The same with its helper turned round, and one without use.
        self.assertIsNone(parting(LADDER, (1, 3, (), ((-2, -1),), ((-5, 2), (-4, 2)), ((-3,),))))

    def test_one_clause_more(self):
        for writing in (LADDER, COUNTER, PARITY, SPLIT):
            for place in range(2, 6):
                for clause in ((1,), (-1,), (2,)):
                    if clause not in writing[place]:
                        more = with_place(writing, place, writing[place] + (clause,))
                        self.assertIs(sees_more(more, writing), True)
                        least = [setting for setting in settings_up_to(1, 3)
                                 if slow_seen(writing, setting) != slow_seen(more, setting)][:1]
                        self.check(writing, more, least, 3)
                        self.check(more, writing, least, 3)
                        self.assertIs(sees_more(writing, more), are_alike(writing, more))

    def test_dead_ends(self):
        for one, other in itertools.product(DEAD, repeat=2):
            self.assertIsNone(parting(one, other))
        for one in DEAD:
            for other in (FREE, LADDER, NEAR, COUNTER, HUNDREDS):
                self.assertEqual(parting(one, other), [(None,)])
                self.assertEqual(parting(other, one), [(None,)])
                self.assertEqual([sees_more(one, other), sees_more(other, one)], [True, False])
                self.assertIs(are_alike(one, other), False)

    def test_a_dead_end_that_only_one_of_them_sees(self):
        # Both tell nothing of what is not told, but one of them sees that not all three are True.
        three = (1, 2, ((-2, 1),), ((-1, 2),), ((-4, 3), (-3, 4)), ())
        self.assertIsNone(parting(three, FREE))
        dead = (1, 2, (), (), (), ((-2, -1), (-2, 1), (-1, 2), (1, 2)))
        self.assertEqual(parting(dead, FREE), [(False,)])
        self.assertEqual([slow_seen(dead, [(None,)]), slow_seen(dead, [(False,)])], [[(None,)], None])

    def test_long_settings(self):
        self.assertEqual(parting(COUNTER, FREE), [(None,), (True,), (True,)])
        # Two helpers count the columns, and there must not be four of them.
        counting = ((-5, -2), (2, 5), (-6, 2, 3), (-6, -3, -2), (-2, 3, 6), (-3, 2, 6))
        four = (1, 3, ((-2,), (-3,)), (), counting, ((-3, -2),))
        three = (1, 3, ((-2,), (-3,)), (), counting, ((-3, 2),))
        self.assertEqual(parting(four, FREE), [(None,)] * 4)
        self.assertEqual(parting(three, four), [(None,)] * 3)
        self.assertIsNone(parting(four[:5] + ((),), FREE))
        self.assertEqual([sees_more(four, FREE), sees_more(FREE, four), sees_more(three, four)], [True, False, False])

    def test_both_ways_round(self):
        for writings, _, _ in groups(13000):
            for one, other in itertools.combinations(writings, 2):
                self.assertEqual(parting(one, other), parting(other, one))
                both = sees_more(one, other) and sees_more(other, one)
                self.assertIs(are_alike(one, other), both)

    def test_hundreds_of_standings(self):
        for one, other, most in ((HUNDREDS, LADDER, 4), (HUNDREDS_TWO, TURNS, 2)):
            least = [setting for (setting, sight), (_, mate) in zip(sights(one, most), sights(other, most))
                     if sight != mate][:1]
            self.check(one, other, least, most)

    def test_new_lists(self):
        one, other = parting(LADDER, SPLIT), parting(LADDER, SPLIT)
        self.assertIsNot(one, other)
        one.clear()
        self.assertEqual(parting(LADDER, SPLIT), other)

    def test_by_name(self):
        self.assertEqual(parting(other=NEVER, one=FREE), [(None,)])
        self.assertIs(are_alike(other=NEVER, one=FREE), False)
        self.assertIs(sees_more(other=NEVER, one=FREE), False)
        self.assertIs(sees_more(other=FREE, one=NEVER), True)


class IsClosed(unittest.TestCase):

    def test_document(self):
        self.assertEqual([is_closed(LADDER, [(None,), (True,)]), is_closed(SPLIT, [(None,), (True,)])], [False, True])

    def test_against_what_is_seen(self):
        for inputs, size, many in [(1, 1, 3), (1, 2, 3), (2, 2, 2), (2, 3, 2), (1, 4, 2)]:
            for writing in made_writings(inputs, size, 8, seed=30 + size):
                for setting in all_rows(inputs, many):
                    expected = slow_seen(writing, setting) == setting
                    self.assertIs(leaves_alone(self, is_closed, writing, setting), expected, (writing, setting))

    def test_just_what_they_tell_more_and_a_dead_end(self):
        self.assertIs(is_closed(LADDER, [(None,), (None,)]), True)
        self.assertIs(is_closed(LADDER, [(False,), (True,)]), True)
        self.assertIs(is_closed(LADDER, [(True,), (None,)]), False)
        self.assertIs(is_closed(LADDER, [(True,), (True,)]), False)

    def test_hundreds_of_columns(self):
        nothing = [(None,)] * 300
        self.assertIs(is_closed(LADDER, nothing), True)
        for place in (0, 150, 299):
            only = with_place([(False,)] * 300, place, (True,))
            self.assertIs(is_closed(LADDER, only), True)
            self.assertIs(is_closed(LADDER, with_place(nothing, place, (True,))), False)
            self.assertIs(is_closed(LADDER, with_place(only, 7, (True,))), False)
            self.assertIs(is_closed(NEAR, with_place(nothing, place, (False,))), True)
        self.assertIs(is_closed(NEVER, nothing), False)

    def test_by_name(self):
        self.assertIs(is_closed(setting=[(None,)], writing=FREE), True)


class Errors(unittest.TestCase):

    def test_no_writing(self):
        for thing in strange_objects() + NO_WRITINGS:
            for function in (parting, are_alike, sees_more):
                for other in (LADDER, TURNS, None):
                    raises(self, InvalidWriting, function, thing, other)
                    raises(self, InvalidWriting, function, other, thing)
            raises(self, InvalidWriting, is_closed, thing, [(None,)])
            raises(self, InvalidWriting, is_closed, thing, None)

    def test_no_match(self):
        for one, other in [(LADDER, TURNS), (TURNS, FREE), (NEVER, (2, 4, (), (), (), ()))]:
            for function in (parting, are_alike, sees_more):
                raises(self, InvalidMatch, function, one, other)

    def test_no_setting(self):
        for thing in strange_objects() + NO_SETTINGS:
            raises(self, InvalidSetting, is_closed, LADDER, thing)
        for thing in strange_objects() + [[(None,)], [(None, None, None)], [(None, None), (None,)]]:
            raises(self, InvalidSetting, is_closed, (2, 3, (), (), (), ()), thing)


if __name__ == '__main__':
    unittest.main()
