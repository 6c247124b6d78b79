"""Promises [9], [11] and [22], and of [2] what belongs to them: too much."""

import unittest

from followrows.right import is_right
from followrows.toomuch import is_sound, too_much
from followrows.wishes import at_most
from tests.anything import leaves_alone
from tests.misfits import refuses_misfits
from tests.reference import LADDER, made_wishes, wished
from tests.tables import (COUNTER, EVERY, FREE, HUNDREDS, HUNDREDS_TWO, NEAR, NEVER, NO_WORD, SEEN_WHOLE, SPLIT,
                          TURNS, WISH_COUNTER, WISH_EVEN, WISH_ONE, groups, is_too_much, settings_up_to,
                          sights, slow_seen, words_up_to)

# Written are the words with an even number of columns, whatever stands in them.
TURNING = (1, 2, ((2,),), (), ((-4, -2), (2, 4)), ((-2,),))


class TooMuch(unittest.TestCase):

    def test_document(self):
        self.assertEqual([is_sound(LADDER, at_most(2)), too_much(LADDER, at_most(2)), is_sound(SPLIT, at_most(1))],
                         [False, [(None,), (True,)], True])

    def test_against_following_of_all_settings(self):
        for writings, wishes, most in groups(11000):
            for writing in writings:
                seen = sights(writing, most)
                for wish in wishes:
                    least = [setting for setting, sight in seen if is_too_much(wish, setting, sight)][:1]
                    self.check(writing, wish, least, most)

    def check(self, writing, wish, least, most):
        """Fail unless what is too much is the least one among the short ones, or else is a longer one."""
        found = leaves_alone(self, too_much, writing, wish)
        self.assertIs(leaves_alone(self, is_sound, writing, wish), found is None)
        if least:
            self.assertEqual([found], least, (writing, wish))
        elif found is None:
            # It tells too much just if following ends in a dead end for some wished word.
            for word in words_up_to(writing[0], 5 if writing[0] == 1 else 3):
                self.assertFalse(wished(wish, word) and slow_seen(writing, word) is None)
        else:
            self.assertGreater(len(found), most)
            self.assertTrue(is_too_much(wish, found, slow_seen(writing, found)))

    def test_right_writings_do_not_tell_too_much(self):
        for writing, wish in SEEN_WHOLE + [(LADDER, WISH_ONE), (SPLIT, WISH_ONE)]:
            self.assertIs(is_right(writing, wish), True)
            self.assertIsNone(too_much(writing, wish))
            self.assertIs(is_sound(writing, wish), True)

    def test_writings_that_are_not_right_but_sound(self):
        for wish in (WISH_ONE, WISH_COUNTER, WISH_EVEN, EVERY, NO_WORD):
            self.assertIsNone(too_much(FREE, wish))
        self.assertIsNone(too_much(COUNTER, WISH_ONE))
        self.assertIsNone(too_much(NEVER, NO_WORD))

    def test_wishes_without_words(self):
        for inputs, writings in ((1, (LADDER, NEVER, COUNTER, HUNDREDS)), (2, (TURNS, HUNDREDS_TWO))):
            for states in (1, 3, 12):
                for wish in made_wishes(inputs, states, 3, seed=states):
                    for writing in writings:
                        self.assertIsNone(too_much(writing, wish[:2] + ((False,) * states,)))

    def test_dead_ends(self):
        self.assertEqual(too_much(NEVER, EVERY), [(None,)])
        self.assertEqual(too_much((1, 1, (), (), ((-2, -1),), ((1,),)), EVERY), [(None,)])
        self.assertEqual(too_much((1, 2, ((2,), (-2,)), (), (), ()), WISH_EVEN), [(None,)])

    def test_told_otherwise(self):
        self.assertEqual(too_much(LADDER, WISH_COUNTER), [(None,), (True,)])
        self.assertEqual(too_much(COUNTER, (1, WISH_COUNTER[1], (True,) * 4)), [(None,), (True,), (True,)])
        self.assertEqual(too_much(NEAR, WISH_COUNTER), [(None,), (True,)])
        self.assertEqual(too_much((1, 1, (), ((-1,),), (), ()), EVERY), [(None,)])

    def test_told_as_all_wished_words_have_it(self):
        # Following tells the same as what the wish forces, and what is told already.
        all_false = (1, ((0, 1), (1, 1)), (True, False))
        self.assertIsNone(too_much((1, 1, (), ((-1,),), (), ()), all_false))
        self.assertIsNone(too_much((1, 1, (), (), ((-2, 1), (-1, 2)), ()),
                                   (1, ((1, 2), (1, 3), (3, 2), (3, 3)), (True, True, True, False))))

    def test_long_settings(self):
        for many in range(1, 12):
            # Good are the words with so many columns, or with twelve more, and so on.
            steps = tuple((state, state) for state in range(1, 12)) + ((0, 0),)
            wish = (1, steps, tuple(state == many for state in range(12)))
            self.assertEqual(too_much(TURNING, wish), [(None,)] * many if many % 2 else None)

    def test_writings_with_hundreds_of_standings(self):
        for writing, most in ((HUNDREDS, 4), (HUNDREDS_TWO, 2)):
            seen = sights(writing, most)
            for wish in made_wishes(writing[0], 12, 4, seed=5) + made_wishes(writing[0], 3, 4, seed=6):
                least = [setting for setting, sight in seen if is_too_much(wish, setting, sight)][:1]
                self.check(writing, wish, least, most)

    def test_parts_that_are_there_once(self):
        for clause in ((1,), (-1,)):
            for writing in ((1, 1, (clause,), (), (), ()), (1, 1, (), (), (), (clause,)), (1, 1, (), (), (clause,), ())):
                for wish in (WISH_ONE, EVERY, WISH_EVEN, WISH_COUNTER):
                    seen = [(setting, slow_seen(writing, setting)) for setting in settings_up_to(1, 4)]
                    self.check(writing, wish, [setting for setting, sight in seen
                                               if is_too_much(wish, setting, sight)][:1], 4)

    def test_new_lists(self):
        one, other = too_much(LADDER, WISH_COUNTER), too_much(LADDER, WISH_COUNTER)
        self.assertIsNot(one, other)
        one.clear()
        self.assertEqual(too_much(LADDER, WISH_COUNTER), other)

    def test_by_name(self):
        self.assertEqual(too_much(wish=EVERY, writing=NEVER), [(None,)])
        self.assertIs(is_sound(wish=EVERY, writing=NEVER), False)


class Errors(unittest.TestCase):

    def test_misfits(self):
        for function in (too_much, is_sound):
            refuses_misfits(self, function)


if __name__ == '__main__':
    unittest.main()
