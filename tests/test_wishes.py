"""Promises [8] and [17], and of [2] and [5] what belongs to them: wishes."""

import itertools
import unittest

from followrows.errors import InvalidMatch, InvalidNumber, InvalidSetting, InvalidWish, InvalidWord, TooMany
from followrows.wishes import apart, at_most, both, can_come, forced, is_wish, is_wished, just, parting_word
from tests.anything import LONG, leaves_alone, raises, strange_objects, with_place
from tests.reference import (AT_MOST_ONE, NO_WISHES, all_rows, all_words, made_wishes, slow_forced, wished,
                             wished_words)

ALL = (1, ((0, 0),), (True,))
NONE = (1, ((0, 0),), (False,))
EVEN = (1, ((0, 1), (1, 0)), (True, False))
# True in the first column, then by turns.
BY_TURNS = (1, ((2, 1), (0, 2), (2, 2)), (True, True, False))
# All columns are the same.
LIKE = (1, ((1, 2), (1, 3), (3, 2), (3, 3)), (True, True, True, False))
LAST_TRUE = (1, ((0, 1), (0, 1)), (False, True))
# Both inputs are never the same, and the first one is True in just one column.
SWAP = (2, ((2, 0, 1, 2), (2, 1, 2, 2), (2, 2, 2, 2)), (False, True, False))
TWO_ALL = (2, ((0, 0, 0, 0),), (True,))
ONES = [ALL, NONE, EVEN, BY_TURNS, LIKE, LAST_TRUE, AT_MOST_ONE]
NO_WORDS = [(), [], ((True,),), [(None,)], [(True,), (None,)], [(True, True)], [(True,), (True, True)], [[True]], [(1,)],
            [(0,)], [(True,), (0,)], [True], [None], ['1'], {0: (True,)}]
NO_SETTINGS = [(), [], ((True,),), [(None, None)], [(True, True)], [(True,), (None, None)], [[None]], [(1,)],
               [(None,), (0,)], [None], ['?'], {0: (None,)}]


def chain(states, turning=False):
    """Return the wish of so many states that counts columns, up to the last state or over and over."""
    steps = [min(state + 1, states - 1) for state in range(states)]
    if turning:
        steps[-1] = 0
    return 1, tuple((step, step) for step in steps), (True,) * states


def slow_parting_word(one, other):
    """Return the least word that just one of two wishes wishes, or None, going through all words."""
    for many in range(1, len(one[1]) + len(other[1])):
        for word in all_words(one[0], many):
            if wished(one, word) != wished(other, word):
                return word
    return None


def slow_both(one, other):
    """Return the wish for what two wishes wish, with pairs as words in their order come to them."""
    pairs = [(0, 0)]
    behind = {}
    for many in range(1, len(one[1]) * len(other[1]) + 2):
        for word in all_words(one[0], many):
            pair = (0, 0)
            for column in word:
                at = int(''.join(str(int(entry)) for entry in column), 2)
                ahead, pair = pair, (one[1][pair[0]][at], other[1][pair[1]][at])
                behind[ahead, at] = pair
            if pair not in pairs:
                pairs.append(pair)
    steps = tuple(tuple(pairs.index(behind[pair, at]) for at in range(2 ** one[0])) for pair in pairs)
    return one[0], steps, tuple(one[2][state] and other[2][mate] for state, mate in pairs)


def word_of(text):
    """Return the word, or the setting, of one input that a text of 1, 0 and ? stands for."""
    return [({'1': True, '0': False, '?': None}[sign],) for sign in text]


class IsWish(unittest.TestCase):

    def test_ordinary(self):
        for wish in ONES + [SWAP, TWO_ALL] + made_wishes(1, 5, 10, seed=1) + made_wishes(2, 7, 10, seed=2):
            self.assertIs(leaves_alone(self, is_wish, wish), True)

    def test_one_to_twelve_states(self):
        for inputs in (1, 2):
            for states in range(15):
                wish = (inputs, ((0,) * (2 * inputs),) * states, (True,) * states)
                self.assertIs(is_wish(wish), 1 <= states <= 12)

    def test_steps_and_good_of_unlike_numbers(self):
        for inputs, states, marks in itertools.product((1, 2), range(1, 13), range(15)):
            wish = (inputs, ((0,) * (2 * inputs),) * states, (False,) * marks)
            self.assertIs(is_wish(wish), states == marks)

    def test_states_that_are_not_there(self):
        for inputs, states in itertools.product((1, 2), range(1, 13)):
            many = 2 * inputs
            for place, at in itertools.product(range(states), range(many)):
                for state in (-LONG, -states, -1, 0, states - 1, states, states + 1, 12, LONG):
                    steps = [(0,) * many] * states
                    steps[place] = with_place(steps[place], at, state)
                    self.assertIs(is_wish((inputs, tuple(steps), (True,) * states)), 0 <= state < states)

    def test_inputs(self):
        for inputs in (-1, 0, 1, 2, 3, 4, LONG, True, False, None, '1', (1,), [1]):
            for columns in (1, 2, 3, 4, 8, 16):
                expected = inputs.__class__ is int and (inputs, columns) in ((1, 2), (2, 4))
                self.assertIs(is_wish((inputs, ((0,) * columns,) * 2, (True, True))), expected)

    def test_a_state_with_too_few_or_too_many_columns(self):
        for inputs, columns in itertools.product((1, 2), range(6)):
            for place in range(3):
                steps = with_place(((0,) * (2 * inputs),) * 3, place, (0,) * columns)
                self.assertIs(is_wish((inputs, steps, (True,) * 3)), columns == 2 * inputs)

    def test_bools_and_integers(self):
        self.assertIs(is_wish((1, ((0, 1), (1, 1)), (True, False))), True)
        for wish in [(1, ((0, True), (1, 1)), (True, False)), (1, ((False, 1), (1, 1)), (True, False)),
                     (1, ((0, 1), (1, 1)), (1, False)), (1, ((0, 1), (1, 1)), (True, 0)),
                     (True, ((0, 1), (1, 1)), (True, False)), (1, ((0, 1), (1, 1)), (True, None)),
                     (1, ((0, None), (1, 1)), (True, False)), (1, ((0, '1'), (1, 1)), (True, False))]:
            with self.subTest(wish):
                self.assertIs(is_wish(wish), False)

    def test_lists_for_tuples(self):
        for wish in ONES + [SWAP]:
            inputs, steps, good = wish
            self.assertIs(is_wish(list(wish)), False)
            self.assertIs(is_wish((inputs, list(steps), good)), False)
            self.assertIs(is_wish((inputs, steps, list(good))), False)
            for place in range(len(steps)):
                self.assertIs(is_wish((inputs, with_place(steps, place, list(steps[place])), good)), False)

    def test_too_few_and_too_many_places(self):
        for many in range(7):
            self.assertIs(is_wish((AT_MOST_ONE * 3)[:many]), many == 3)

    def test_strange_objects(self):
        for thing in strange_objects():
            self.assertIs(leaves_alone(self, is_wish, thing), False)
            self.assertIs(is_wish((thing,) * 3), False)
            for wish in (AT_MOST_ONE, SWAP):
                for place in range(3):
                    self.assertIs(leaves_alone(self, is_wish, with_place(wish, place, thing)), False)
                for place in range(3):
                    self.assertIs(is_wish(with_place(wish, 1, with_place(wish[1], place, thing))), False)
                    if thing is not True and thing is not False:
                        self.assertIs(is_wish(with_place(wish, 2, with_place(wish[2], place, thing))), False)
                    if thing.__class__ is not int or not 0 <= thing <= 2:
                        steps = with_place(wish[1], place, with_place(wish[1][place], 1, thing))
                        self.assertIs(is_wish(with_place(wish, 1, steps)), False)

    def test_by_name(self):
        self.assertIs(is_wish(thing=ALL), True)


class MadeWishes(unittest.TestCase):

    def test_document(self):
        self.assertEqual(at_most(1), (1, ((0, 1), (1, 2), (2, 2)), (True, True, False)))
        self.assertEqual(apart(1), (1, ((0, 1), (0, 2), (2, 2)), (True, True, False)))

    def test_at_most(self):
        self.assertEqual(at_most(0), (1, ((0, 1), (1, 1)), (True, False)))
        self.assertEqual(at_most(2), (1, ((0, 1), (1, 2), (2, 3), (3, 3)), (True, True, True, False)))
        for most in range(7):
            steps = ((0, 1), (1, 2), (2, 3), (3, 4), (4, 5), (5, 6), (6, 7))[:most + 1]
            self.assertEqual(at_most(most), (1, steps + ((most + 1, most + 1),), (True,) * (most + 1) + (False,)))

    def test_just(self):
        self.assertEqual(just(0), (1, ((0, 1), (1, 1)), (True, False)))
        self.assertEqual(just(1), (1, ((0, 1), (1, 2), (2, 2)), (False, True, False)))
        self.assertEqual(just(2), (1, ((0, 1), (1, 2), (2, 3), (3, 3)), (False, False, True, False)))
        for most in range(7):
            self.assertEqual(just(most)[:2], at_most(most)[:2])
            self.assertEqual(just(most)[2], tuple(state == most for state in range(most + 2)))

    def test_apart(self):
        self.assertEqual([apart(gap) for gap in range(2, 7)], [
            (1, ((0, 1), (2, 3), (0, 3), (3, 3)), (True, True, True, False)),
            (1, ((0, 1), (2, 4), (3, 4), (0, 4), (4, 4)), (True, True, True, True, False)),
            (1, ((0, 1), (2, 5), (3, 5), (4, 5), (0, 5), (5, 5)), (True, True, True, True, True, False)),
            (1, ((0, 1), (2, 6), (3, 6), (4, 6), (5, 6), (0, 6), (6, 6)), (True,) * 6 + (False,)),
            (1, ((0, 1), (2, 7), (3, 7), (4, 7), (5, 7), (6, 7), (0, 7), (7, 7)), (True,) * 7 + (False,)),
        ])

    def test_what_they_wish(self):
        for many in range(1, 10):
            for word in all_words(1, many):
                places = [place for place, column in enumerate(word) if column[0]]
                for number in range(7):
                    self.assertIs(is_wished(at_most(number), word), len(places) <= number)
                    self.assertIs(is_wished(just(number), word), len(places) == number)
                    if number:
                        near = any(other - one <= number for one, other in itertools.combinations(places, 2))
                        self.assertIs(is_wished(apart(number), word), not near)

    def test_are_wishes(self):
        for number in range(1, 7):
            for wish in (at_most(number), just(number), apart(number)):
                self.assertTrue(is_wish(wish))

    def test_no_number(self):
        for thing in [-1, -2, -LONG, 7, 8, 12, LONG, 10 ** 20, True, False, None, '1', '', [], [1], (), (1,), {}, {1: 1}]:
            for function in (at_most, just, apart):
                raises(self, InvalidNumber, function, thing)
        raises(self, InvalidNumber, apart, 0)
        for thing in strange_objects():
            if thing.__class__ is not int or not 0 <= thing <= 6:
                for function in (at_most, just, apart):
                    raises(self, InvalidNumber, function, thing)

    def test_by_name(self):
        self.assertEqual([at_most(most=1), just(most=1), apart(gap=1)], [at_most(1), just(1), apart(1)])


class IsWished(unittest.TestCase):

    def test_ordinary(self):
        self.assertEqual([is_wished(EVEN, word_of(text)) for text in ('0', '1', '11', '10', '0110', '111')],
                         [True, False, True, False, True, False])
        self.assertEqual([is_wished(SWAP, word) for word in all_words(2, 1)], [False, False, True, False])
        self.assertIs(is_wished(SWAP, [(False, True), (True, False), (False, True)]), True)
        self.assertIs(is_wished(SWAP, [(True, False), (True, False)]), False)

    def test_against_the_states_one_by_one(self):
        for inputs, many in ((1, 5), (2, 3)):
            for states in (1, 2, 3, 6, 12):
                for wish in made_wishes(inputs, states, 4, seed=10 + states):
                    for word in all_words(inputs, many) + all_words(inputs, 1):
                        self.assertIs(leaves_alone(self, is_wished, wish, word), wished(wish, word))

    def test_hundreds_of_columns(self):
        for places in ((), (0,), (299,), (3, 150), (0, 298, 299)):
            word = [(place in places,) for place in range(300)]
            self.assertIs(is_wished(EVEN, word), len(places) % 2 == 0)
            self.assertIs(is_wished(just(2), word), len(places) == 2)
            self.assertIs(is_wished(LAST_TRUE, word), 299 in places)

    def test_by_name(self):
        self.assertIs(is_wished(word=[(True,)], wish=ALL), True)


class CanCome(unittest.TestCase):

    def test_document(self):
        self.assertIs(can_come(apart(2), word_of('1?1')), False)

    def test_against_going_through_all_words(self):
        for inputs, many in ((1, 1), (1, 4), (2, 1), (2, 2)):
            for states in (1, 2, 3, 5, 12):
                for wish in made_wishes(inputs, states, 5, seed=20 + states):
                    for setting in all_rows(inputs, many):
                        expected = len(wished_words(wish, setting)) > 0
                        self.assertIs(leaves_alone(self, can_come, wish, setting), expected, (wish, setting))

    def test_hundreds_of_columns(self):
        nothing = word_of('?' * 300)
        for wish, expected in [(ALL, True), (NONE, False), (EVEN, True), (BY_TURNS, True), (LIKE, True), (just(6), True)]:
            self.assertIs(can_come(wish, nothing), expected)
        for one, other in [(0, 299), (0, 1), (150, 153), (298, 299)]:
            setting = with_place(with_place(nothing, one, (True,)), other, (True,))
            self.assertIs(can_come(at_most(1), setting), False)
            self.assertIs(can_come(at_most(2), setting), True)
            self.assertIs(can_come(apart(2), setting), other - one > 2)
            self.assertIs(can_come(apart(3), setting), other - one > 3)
            self.assertIs(can_come(LIKE, with_place(setting, one, (False,))), False)
        self.assertIs(can_come(SWAP, [(None, None)] * 300), True)
        self.assertIs(can_come(SWAP, [(False, None)] * 299 + [(None, True)]), False)

    def test_by_name(self):
        self.assertIs(can_come(setting=[(None,)], wish=ALL), True)


class Forced(unittest.TestCase):

    def test_document(self):
        self.assertEqual(forced(just(1), word_of('0?')), word_of('01'))
        self.assertIsNone(forced(at_most(1), word_of('1?1')))

    def test_against_going_through_all_words(self):
        for inputs, many in ((1, 1), (1, 4), (2, 1), (2, 2)):
            for states in (1, 2, 3, 5, 12):
                for wish in made_wishes(inputs, states, 5, seed=30 + states):
                    for setting in all_rows(inputs, many):
                        told = leaves_alone(self, forced, wish, setting)
                        self.assertEqual(told, slow_forced(wish, setting), (wish, setting))

    def test_what_is_told_stays(self):
        self.assertEqual(forced(ALL, word_of('?1?0?')), word_of('?1?0?'))
        self.assertEqual(forced(ALL, word_of('101')), word_of('101'))
        self.assertIsNone(forced(NONE, word_of('101')))

    def test_in_the_first_a_middle_and_the_last_column(self):
        for many in (2, 3, 300):
            for place in (0, many // 2, many - 1):
                setting = with_place(word_of('0' * many), place, (None,))
                expected = with_place(setting, place, (True,))
                self.assertEqual(forced(just(1), setting), expected)
                self.assertIsNone(forced(just(2), setting))
                self.assertEqual(forced(at_most(1), setting), setting)
                self.assertEqual(forced(at_most(0), setting), word_of('0' * many))
                self.assertEqual(forced(at_most(1), with_place(word_of('?' * many), place, (True,))),
                                 with_place(word_of('0' * many), place, (True,)))
                self.assertEqual(forced(LIKE, with_place(word_of('?' * many), place, (False,))), word_of('0' * many))

    def test_hundreds_of_columns_that_tell_nothing(self):
        nothing = word_of('?' * 300)
        for wish in (ALL, EVEN, LIKE, at_most(6), just(1), apart(6)):
            self.assertEqual(forced(wish, nothing), nothing)
        self.assertIsNone(forced(NONE, nothing))
        self.assertEqual(forced(BY_TURNS, nothing), word_of('10' * 150))
        self.assertEqual(forced(LAST_TRUE, nothing), word_of('?' * 299 + '1'))
        self.assertEqual(forced(at_most(0), nothing), word_of('0' * 300))

    def test_hundreds_of_columns(self):
        self.assertEqual(forced(apart(2), word_of('??1?????1?' * 30)), word_of('00100?0010' * 30))
        self.assertEqual(forced(just(6), word_of('0' * 294 + '?' * 6)), word_of('0' * 294 + '1' * 6))
        self.assertEqual(forced(just(6), word_of('?' * 6 + '0' * 294)), word_of('1' * 6 + '0' * 294))
        self.assertEqual(forced(EVEN, word_of('1' * 150 + '?' + '1' * 149)), word_of('1' * 300))

    def test_one_of_two_inputs(self):
        self.assertEqual(forced(SWAP, [(None, True), (None, None)]), [(False, True), (True, False)])
        self.assertEqual(forced(SWAP, [(None, None), (None, None)]), [(None, None), (None, None)])
        self.assertEqual(forced(SWAP, [(None, False)] + [(None, None)] * 299),
                         [(True, False)] + [(False, True)] * 299)
        self.assertIsNone(forced(SWAP, [(None, False), (True, None)]))

    def test_a_new_list_at_each_call(self):
        for setting in (word_of('?'), word_of('10?'), word_of('101'), word_of('?' * 300)):
            one, other = forced(ALL, setting), forced(ALL, setting)
            self.assertIsNot(one, setting)
            self.assertIsNot(one, other)
            one.clear()
            self.assertEqual(other, setting)
            self.assertEqual(forced(ALL, setting), setting)

    def test_kinds(self):
        self.assertEqual(repr(forced(just(1), word_of('0?'))), '[(False,), (True,)]')

    def test_by_name(self):
        self.assertEqual(forced(setting=[(None,)], wish=ALL), [(None,)])


class Both(unittest.TestCase):

    def test_ordinary(self):
        self.assertEqual(both(ALL, ALL), ALL)
        self.assertEqual(both(ALL, NONE), NONE)
        self.assertEqual(both(EVEN, ALL), EVEN)
        self.assertEqual(both(ALL, EVEN), EVEN)
        self.assertEqual(both(TWO_ALL, SWAP)[2].count(True), 1)

    def test_numbers_of_states(self):
        # The pairs, in the order in which words come to them: 00, 10 by False, 21 by True, ..
        self.assertEqual(both(at_most(1), EVEN), (1, ((0, 1), (1, 2), (2, 3), (3, 2)), (True, False, False, False)))
        self.assertEqual(both(LIKE, EVEN),
                         (1, ((1, 2), (1, 3), (3, 4), (3, 5), (5, 2), (5, 3)), (True, True, False, False, True, False)))

    def test_the_order_of_the_columns(self):
        one = (1, ((2, 1), (1, 1), (2, 2)), (True, True, False))
        self.assertEqual(both(one, ALL), (1, ((1, 2), (1, 1), (2, 2)), (True, False, True)))
        two = (2, ((4, 3, 2, 1),) + ((0, 0, 0, 0),) * 4, (True, False, True, False, True))
        self.assertEqual(both(two, TWO_ALL), (2, ((1, 2, 3, 4),) + ((0, 0, 0, 0),) * 4, (True, True, False, True, False)))

    def test_states_that_no_word_comes_to(self):
        one = (1, ((0, 2), (1, 1), (0, 2)), (True, True, False))
        self.assertEqual(both(one, one), (1, ((0, 1), (0, 1)), (True, False)))

    def test_against_going_through_all_words(self):
        for inputs, sizes in ((1, ((1, 2), (2, 2), (2, 3), (3, 2), (3, 3))), (2, ((1, 2), (2, 2)))):
            for size, other_size in sizes:
                for one, other in zip(made_wishes(inputs, size, 12, seed=40), made_wishes(inputs, other_size, 12, seed=41)):
                    made = leaves_alone(self, both, one, other)
                    self.assertEqual(made, slow_both(one, other), (one, other))
                    self.assertTrue(is_wish(made))

    def test_wishes_what_both_wish(self):
        for one, other in itertools.product(ONES, repeat=2):
            made = both(one, other)
            for word in all_words(1, 4):
                self.assertIs(is_wished(made, word), wished(one, word) and wished(other, word))

    def test_a_wish_with_itself(self):
        for wish in ONES + [SWAP, at_most(6), just(6), apart(6), chain(12), chain(12, turning=True)]:
            made = both(wish, wish)
            self.assertEqual(len(made[1]), len(wish[1]))
            self.assertIsNone(parting_word(made, wish))
        # The states of these are in the order of the least words already, those of apart are not.
        for wish in (ALL, EVEN, LIKE, AT_MOST_ONE, at_most(6), just(6), chain(12)):
            self.assertEqual(both(wish, wish), wish)
        self.assertEqual(both(apart(2), apart(2)), (1, ((0, 1), (2, 3), (0, 3), (3, 3)), (True, True, True, False)))
        self.assertEqual(both(apart(3), apart(3)),
                         (1, ((0, 1), (2, 3), (4, 3), (3, 3), (0, 3)), (True, True, True, False, True)))

    def test_exactly_twelve_pairs(self):
        for one, other in [(chain(3, turning=True), chain(4, turning=True)), (chain(11), chain(2, turning=True)),
                           (chain(2, turning=True), chain(11)), (chain(12), chain(12)), (chain(12), ALL)]:
            made = both(one, other)
            self.assertEqual(len(made[1]), 12)
            self.assertTrue(is_wish(made))
        self.assertEqual(both(chain(3, turning=True), chain(4, turning=True)), chain(12, turning=True))

    def test_thirteen_pairs(self):
        raises(self, TooMany, both, chain(12), chain(2, turning=True))
        raises(self, TooMany, both, chain(2, turning=True), chain(12))

    def test_many_pairs(self):
        raises(self, TooMany, both, chain(12, turning=True), chain(11, turning=True))
        raises(self, TooMany, both, at_most(6), apart(6))
        raises(self, TooMany, both, made_wishes(2, 12, 1, seed=3)[0], made_wishes(2, 12, 1, seed=4)[0])

    def test_by_name(self):
        self.assertEqual(both(other=EVEN, one=ALL), EVEN)


class PartingWord(unittest.TestCase):

    def test_document(self):
        self.assertEqual(parting_word(at_most(1), apart(1)), word_of('101'))
        self.assertIsNone(parting_word(both(at_most(2), at_most(1)), at_most(1)))

    def test_one_column(self):
        self.assertEqual(parting_word(ALL, NONE), word_of('0'))
        self.assertEqual(parting_word(EVEN, ALL), word_of('1'))
        self.assertEqual(parting_word(EVEN, NONE), word_of('0'))
        self.assertEqual(parting_word(SWAP, TWO_ALL), [(False, False)])
        self.assertEqual(parting_word(SWAP, (2, ((0, 0, 0, 0),), (False,))), [(True, False)])

    def test_no_word_has_no_columns(self):
        # Ahead of the first column just one of both is good, behind it they are alike.
        one, other = (1, ((1, 1), (1, 1)), (True, False)), (1, ((1, 1), (1, 1)), (False, False))
        self.assertIsNone(parting_word(one, other))
        self.assertIsNone(parting_word(other, one))
        # Here a word comes back to the first states.
        one, other = (1, ((1, 1), (0, 1)), (True, True)), (1, ((1, 1), (0, 1)), (False, True))
        self.assertEqual(parting_word(one, other), word_of('00'))

    def test_fewer_columns_come_first(self):
        # The words of one column are alike, 11 parts them, and so do 000 and others.
        one = (1, ((1, 2), (3, 3), (3, 4), (4, 3), (4, 4)), (True, True, True, True, False))
        other = (1, ((0, 0),), (True,))
        self.assertEqual(parting_word(one, other), word_of('11'))

    def test_the_first_unlike_column_tells(self):
        self.assertEqual(parting_word(just(1), at_most(1)), word_of('0'))
        self.assertEqual(parting_word(just(2), just(1)), word_of('1'))
        self.assertEqual(parting_word(at_most(2), at_most(1)), word_of('11'))
        self.assertEqual(parting_word(apart(2), apart(1)), word_of('101'))
        self.assertEqual(parting_word(apart(6), apart(5)), word_of('1000001'))
        self.assertEqual(parting_word(at_most(6), at_most(5)), word_of('111111'))

    def test_against_going_through_all_words(self):
        for inputs, sizes in ((1, ((1, 2), (2, 2), (2, 3), (4, 3), (4, 5))), (2, ((1, 2), (2, 2), (3, 2)))):
            for size, other_size in sizes:
                for one, other in zip(made_wishes(inputs, size, 30, seed=50), made_wishes(inputs, other_size, 30, seed=51)):
                    for pair in ((one, other), (other, one)):
                        found = leaves_alone(self, parting_word, *pair)
                        self.assertEqual(found, slow_parting_word(one, other), pair)

    def test_unlike_in_one_mark(self):
        for wish in made_wishes(1, 6, 30, seed=60) + [chain(6), chain(6, turning=True), apart(4), at_most(4)]:
            for state in range(6):
                other = with_place(wish, 2, with_place(wish[2], state, not wish[2][state]))
                self.assertEqual(parting_word(wish, other), slow_parting_word(wish, other))

    def test_behind_many_columns(self):
        for states in range(2, 13):
            one = with_place(chain(states), 2, (True,) * (states - 1) + (False,))
            self.assertEqual(parting_word(one, ALL), word_of('0' * (states - 1)))
            self.assertEqual(parting_word(ALL, one), word_of('0' * (states - 1)))

    def test_behind_as_many_columns_as_can_be(self):
        # Numbers of columns that are 0 or 1 by twelve, and 0 or 1 by eleven, are alike up to twenty-one.
        classes = list(range(21))
        for place, by in itertools.product(range(21), (11, 12)):
            if place + by < 21:
                old, new = classes[place + by], classes[place]
                classes = [new if name == old else name for name in classes]
        self.assertEqual(len(set(classes)), 2)
        marks = [name == classes[0] for name in classes]
        one, other = chain(12, turning=True), chain(11, turning=True)
        one = with_place(one, 2, tuple([marks[11]] + marks[:11]))
        other = with_place(other, 2, tuple([marks[10]] + marks[:10]))
        self.assertEqual(parting_word(one, other), word_of('0' * 22))

    def test_none(self):
        for wish in ONES + [SWAP, TWO_ALL, at_most(6), chain(12)]:
            self.assertIsNone(parting_word(wish, wish))
        self.assertIsNone(parting_word(chain(12, turning=True), chain(11, turning=True)))
        self.assertIsNone(parting_word(chain(12), ALL))

    def test_a_new_list_at_each_call(self):
        one, other = parting_word(at_most(1), apart(1)), parting_word(at_most(1), apart(1))
        self.assertIsNot(one, other)
        one.clear()
        self.assertEqual(other, word_of('101'))

    def test_kinds(self):
        self.assertEqual(repr(parting_word(at_most(1), apart(1))), '[(True,), (False,), (True,)]')

    def test_by_name(self):
        self.assertEqual(parting_word(other=NONE, one=ALL), word_of('0'))


class Errors(unittest.TestCase):

    def test_no_wish(self):
        for thing in strange_objects() + NO_WISHES:
            raises(self, InvalidWish, is_wished, thing, [(True,)])
            for function in (can_come, forced):
                raises(self, InvalidWish, function, thing, [(None,)])
            for function in (both, parting_word):
                raises(self, InvalidWish, function, thing, ALL)
                raises(self, InvalidWish, function, ALL, thing)
                raises(self, InvalidWish, function, thing, thing)

    def test_no_word(self):
        for thing in strange_objects() + NO_WORDS + [[(True,)] * 299 + [(None,)]]:
            raises(self, InvalidWord, is_wished, AT_MOST_ONE, thing)
        for thing in strange_objects() + [[(True,)], [(True, None)], [(True, True, True)], [(True, True), (True,)]]:
            raises(self, InvalidWord, is_wished, SWAP, thing)

    def test_no_setting(self):
        for function in (can_come, forced):
            for thing in strange_objects() + NO_SETTINGS:
                raises(self, InvalidSetting, function, AT_MOST_ONE, thing)
            for thing in strange_objects() + [[(None,)], [(None, None, None)], [(None, None), (None,)], [(None, 1)]]:
                raises(self, InvalidSetting, function, SWAP, thing)

    def test_no_match(self):
        for function in (both, parting_word):
            raises(self, InvalidMatch, function, ALL, TWO_ALL)
            raises(self, InvalidMatch, function, TWO_ALL, ALL)
            raises(self, InvalidMatch, function, chain(12), made_wishes(2, 12, 1, seed=5)[0])

    def test_invalid_wish_comes_first(self):
        for wish, thing in itertools.product([None, list(ALL), [], (1, (), ())], [None, [], 'a', [(1,)], [(None, None)]]):
            for function in (is_wished, can_come, forced, both, parting_word):
                raises(self, InvalidWish, function, wish, thing)
        for wish in ((2, ((0, 0),), (True,)), (2, (), ())):
            for function in (both, parting_word):
                raises(self, InvalidWish, function, ALL, wish)
                raises(self, InvalidWish, function, wish, ALL)


if __name__ == '__main__':
    unittest.main()
