"""Promises [9] and [19], and of [2] what belongs to them: right writings."""

import itertools
import unittest

from followrows.right import is_right, shows_words, words_table, wrong_word
from followrows.wishes import at_most, just
from tests.anything import leaves_alone, strange_objects, with_place
from tests.misfits import refuses_misfits
from tests.reference import BOOLS, LADDER, all_words, made_wishes, made_writings, wished
from tests.tables import (COUNTER, EVERY, FREE, HUNDREDS, HUNDREDS_TWO, JUST_ONE, NEVER, NO_WORD, PARITY, SEEN_WHOLE,
                          SHORT, SPLIT, TURNS, WISH_COUNTER, WISH_EVEN, WISH_JUST_ONE, WISH_ONE, WISH_TURNS, changed,
                          groups, slow_shows_words, slow_words_table, slow_written, words_closed, words_pairs_behind,
                          words_up_to)

# Right for at most one with pairs of one or two columns, and for all words with one column alone.
RIGHT = [(LADDER, WISH_ONE), (SPLIT, WISH_ONE), (FREE, EVERY), (NEVER, NO_WORD), (PARITY, WISH_EVEN),
         (TURNS, WISH_TURNS), (JUST_ONE, WISH_JUST_ONE), (FREE, (1, ((1, 1), (0, 0)), (True, True)))]
FUNCTIONS = [wrong_word, is_right, words_table]


def run_wish(states, inputs=1):
    """Return the wish of so many states for words without as many columns less one, next to each other, all True."""
    last = states - 1
    steps = tuple((0,) * (2 ** inputs - 1) + (min(state + 1, last),) for state in range(last))
    return inputs, steps + ((last,) * 2 ** inputs,), (True,) * last + (False,)


def subsets(size):
    """Return all ascending tuples of different columns that tell all of so many signs."""
    full = list(itertools.product(BOOLS, repeat=size))
    return [chosen for many in range(len(full) + 1) for chosen in itertools.combinations(full, many)]


class WrongWord(unittest.TestCase):

    def test_document(self):
        self.assertEqual([is_right(LADDER, at_most(1)), wrong_word(SHORT, at_most(1)), wrong_word(LADDER, just(1))],
                         [True, [(True,), (False,), (True,)], [(False,)]])

    def test_against_going_through_all_words(self):
        for writings, wishes, most in groups(1000):
            words = words_up_to(writings[0][0], most)
            wished_ones = [[wished(wish, word) for word in words] for wish in wishes]
            for writing in writings:
                written = [slow_written(writing, word) for word in words]
                for wish, expected in zip(wishes, wished_ones):
                    least = [word for word, one, other in zip(words, written, expected) if one != other][:1]
                    self.check(writing, wish, least, most)

    def check(self, writing, wish, least, most):
        """Fail unless a wrong word is the least one among the short ones, or else is a longer one."""
        found = leaves_alone(self, wrong_word, writing, wish)
        self.assertIs(leaves_alone(self, is_right, writing, wish), found is None)
        if least:
            self.assertEqual([found], least, (writing, wish))
        elif found is None:
            self.assertIsNotNone(slow_words_table(writing, wish))
        else:
            self.assertGreater(len(found), most)
            self.assertNotEqual(slow_written(writing, found), wished(wish, found))

    def test_none_for_right_writings(self):
        for writing, wish in SEEN_WHOLE + RIGHT:
            self.assertIsNone(wrong_word(writing, wish))
            self.assertIs(is_right(writing, wish), True)

    def test_long_words(self):
        for states in range(2, 13):
            for inputs, size in [(1, 1), (1, 2), (2, 2), (2, 3)]:
                writing = (inputs, size, (), (), (), ())
                self.assertEqual(wrong_word(writing, run_wish(states, inputs)), [(True,) * inputs] * (states - 1))

    def test_long_words_along_a_writing_and_a_wish_that_turn(self):
        # The helper tells odd numbers of columns from even ones, the wish counts up to eleven and begins again.
        turning = (1, 2, ((2,),), (), ((-4, -2), (2, 4)), ((-2,),))
        wish = (1, tuple((state, state) for state in range(1, 11)) + ((0, 0),), (True, False) * 5 + (True,))
        self.assertEqual(wrong_word(turning, wish), [(False,)] * 11)
        self.assertIsNone(wrong_word(turning, (1, ((1, 1), (0, 0)), (True, False))))

    def test_both_ways_round(self):
        self.assertEqual(wrong_word(FREE, NO_WORD), [(False,)])
        self.assertEqual(wrong_word(NEVER, EVERY), [(False,)])
        self.assertEqual(wrong_word(COUNTER, WISH_ONE), [(True,), (True,)])
        self.assertEqual(wrong_word(LADDER, WISH_COUNTER), [(True,), (True,)])

    def test_one_and_twelve_states(self):
        for seed, (inputs, size) in enumerate([(1, 2), (2, 2)]):
            words = words_up_to(inputs, 4 if inputs == 1 else 2)
            for wish in made_wishes(inputs, 12, 5, seed=seed) + made_wishes(inputs, 1, 3, seed=seed):
                for writing in made_writings(inputs, size, 3, seed=seed, clauses=1):
                    least = [word for word in words if wished(wish, word) != slow_written(writing, word)][:1]
                    self.check(writing, wish, least, len(words[-1]))

    def test_new_lists(self):
        one, other = wrong_word(SHORT, WISH_ONE), wrong_word(SHORT, WISH_ONE)
        self.assertIsNot(one, other)
        one.clear()
        self.assertEqual(wrong_word(SHORT, WISH_ONE), other)

    def test_by_name(self):
        self.assertEqual(wrong_word(wish=NO_WORD, writing=FREE), [(False,)])
        self.assertIs(is_right(wish=NO_WORD, writing=FREE), False)


class WordsTable(unittest.TestCase):

    def test_document(self):
        self.assertEqual([len(words_table(LADDER, at_most(1))), words_table(LADDER, just(1))], [4, None])

    def test_against_what_must_be_there(self):
        for writings, wishes, _ in groups(2000):
            for writing, wish in itertools.product(writings, wishes):
                expected = slow_words_table(writing, wish)
                self.assertEqual(leaves_alone(self, words_table, writing, wish), expected, (writing, wish))

    def test_right_writings(self):
        for writing, wish in SEEN_WHOLE + RIGHT:
            table = words_table(writing, wish)
            self.assertEqual(table, slow_words_table(writing, wish))
            self.assertIsNotNone(table)
            self.assertIs(shows_words(writing, wish, table), True)

    def test_in_the_order_of_the_least_words(self):
        for writing, wish in RIGHT + [(COUNTER, WISH_COUNTER)]:
            found = []
            for word in words_up_to(writing[0], 6 if writing[0] == 1 else 3):
                pair = (None, 0)
                for column in word:
                    number = all_words(writing[0], 1).index([column])
                    pair = words_pairs_behind(writing, wish, *pair)[number]
                if pair not in found:
                    found.append(pair)
            self.assertEqual(words_table(writing, wish), found)

    def test_ladder(self):
        none, one = (False, False), (True, True)
        self.assertEqual(words_table(LADDER, at_most(1)), [
            ((none, (False, True)), 0), ((one,), 1), (((False, True),), 1), ((), 2)])

    def test_writings_with_hundreds_of_standings(self):
        for writing in (HUNDREDS, HUNDREDS_TWO):
            for wish in made_wishes(writing[0], 12, 3, seed=5) + made_wishes(writing[0], 2, 3, seed=6):
                self.assertEqual(words_table(writing, wish), slow_words_table(writing, wish))

    def test_new_lists(self):
        one, other = words_table(LADDER, WISH_ONE), words_table(LADDER, WISH_ONE)
        self.assertIsNot(one, other)
        one.clear()
        self.assertEqual(words_table(LADDER, WISH_ONE), other)

    def test_by_name(self):
        self.assertEqual(words_table(wish=NO_WORD, writing=NEVER), [((), 0)])


class ShowsWords(unittest.TestCase):

    def check(self, writing, wish, thing):
        """Fail unless shows_words tells what there is to tell of an object; return it."""
        shown = leaves_alone(self, shows_words, writing, wish, thing)
        self.assertIs(shown, slow_shows_words(writing, wish, thing), (writing, wish, thing))
        return shown

    def test_document(self):
        self.assertIs(shows_words(LADDER, at_most(1), []), False)

    def test_tables(self):
        for writings, wishes, _ in groups(3000):
            for writing, wish in itertools.product(writings, wishes):
                table = words_closed(writing, wish, words_pairs_behind(writing, wish, None, 0))
                shown = self.check(writing, wish, table)
                self.assertIs(shown, is_right(writing, wish))

    def test_tables_in_any_order(self):
        for writing, wish in RIGHT:
            table = words_table(writing, wish)
            for order in itertools.islice(itertools.permutations(table), 50):
                self.assertIs(shows_words(writing, wish, list(order)), True)

    def test_changed_tables(self):
        for writing, wish in RIGHT + [(COUNTER, WISH_COUNTER)]:
            table = words_table(writing, wish)
            for thing in changed(table):
                self.check(writing, wish, thing)
            for place in range(len(table)):
                self.assertIs(shows_words(writing, wish, table[:place] + table[place + 1:]), False)
                self.assertIs(shows_words(writing, wish, table + table[place:place + 1]), False)

    def test_more_pairs(self):
        shown = []
        for writing, wish in RIGHT:
            table = words_table(writing, wish)
            for pair in itertools.product(subsets(writing[1])[:40], range(len(wish[1]))):
                more = words_closed(writing, wish, [pair])
                shown += [self.check(writing, wish, table + [pair]),
                          self.check(writing, wish, table + [new for new in more if new not in table]),
                          self.check(writing, wish, [new for new in more if new not in table] + table[::-1])]
        self.assertGreater(shown.count(True), 200)
        self.assertGreater(shown.count(False), 200)

    def test_states_and_columns_that_are_none(self):
        table = words_table(LADDER, WISH_ONE)
        for place, (told, state) in enumerate(table):
            for other in (True, False, -1, 3, 10 ** 20, None, str(state), (state,), [state]):
                self.assertIs(shows_words(LADDER, WISH_ONE, with_place(table, place, (told, other))), False)
            for other in (list(told), told + told[:1] if told else None, told + ((None, False),), told + ((True,),),
                          told + ((1, True),), told + ([True, False],), tuple(map(list, told)) or None, (None,), (1,)):
                self.assertIs(shows_words(LADDER, WISH_ONE, with_place(table, place, (other, state))), False)
                self.check(LADDER, WISH_ONE, table + [(other, state)])

    def test_ones_and_zeros_for_bools(self):
        table = words_table(LADDER, WISH_ONE)
        numbers = [(tuple(tuple(map(int, column)) for column in told), state) for told, state in table]
        self.assertEqual(numbers, table)
        self.assertIs(shows_words(LADDER, WISH_ONE, numbers), False)

    def test_columns_that_descend(self):
        table = words_table(LADDER, WISH_ONE)
        self.assertEqual(len(table[0][0]), 2)
        self.assertIs(shows_words(LADDER, WISH_ONE, [(table[0][0][::-1], 0)] + table[1:]), False)
        self.assertIs(shows_words(LADDER, WISH_ONE, table + [(table[0][0][::-1], 0)]), False)

    def test_strange_objects(self):
        for writing, wish in [(LADDER, WISH_ONE), (TURNS, WISH_TURNS), (NEVER, NO_WORD)]:
            table = words_table(writing, wish)
            for thing in strange_objects():
                self.assertIs(leaves_alone(self, shows_words, writing, wish, thing), False)
                for within in ([thing], table + [thing], [thing] + table, with_place(table, 0, thing),
                               table + [(thing, 0)], table + [((), thing)], table + [(thing, thing)],
                               table + [((thing,), 0)], table + [(((thing,) * writing[1],), 0)], (table, thing),
                               with_place(table, 0, (thing, table[0][1])), with_place(table, 0, (table[0][0], thing))):
                    self.check(writing, wish, within)

    def test_by_name(self):
        self.assertIs(shows_words(thing=[((), 0)], wish=NO_WORD, writing=NEVER), True)


class Errors(unittest.TestCase):

    def test_misfits(self):
        for function in FUNCTIONS:
            refuses_misfits(self, function)
        for thing in ([], None, [((), 0)]):
            refuses_misfits(self, shows_words, thing)


if __name__ == '__main__':
    unittest.main()
