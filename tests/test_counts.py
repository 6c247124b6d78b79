"""Promise [28], and of [2] what belongs to it: counts."""

import itertools
import unittest

from followrows.counts import count_dead, count_lost, count_wished, count_written
from followrows.errors import InvalidNumber, InvalidWish, InvalidWriting
from followrows.following import followed
from followrows.wishes import apart, at_most, can_come, just
from followrows.words import words
from tests.anything import LONG, leaves_alone, raises, strange_objects
from tests.reference import (LADDER, NO_WISHES, NO_WRITINGS, all_rows, all_words, made_wishes, made_writings, wished,
                             wished_words)
from tests.tables import (COUNTER, EVERY, FREE, HUNDREDS, HUNDREDS_TWO, KNOWN, KNOWN_TWO, NEAR, NEVER, NO_WORD, PARITY,
                          SEEN_WHOLE, SHORT, SPLIT, TURNS, WISH_COUNTER, WISH_EVEN, WISH_JUST_ONE, WISH_NEAR, WISH_ONE,
                          WISH_TURNS, WISHES, WISHES_TWO, slow_followers, slow_is_end, slow_seen, slow_starts,
                          slow_written, states_by, tells)

WRITINGS = KNOWN + [LADDER] + made_writings(1, 1, 8, seed=1) + made_writings(1, 2, 12, seed=2)
WRITINGS += made_writings(1, 3, 10, seed=3, clauses=5)
WRITINGS_TWO = KNOWN_TWO + made_writings(2, 2, 10, seed=4) + made_writings(2, 3, 5, seed=5, clauses=5)
SOME_WISHES = WISHES + made_wishes(1, 2, 8, seed=6) + made_wishes(1, 3, 8, seed=7) + made_wishes(1, 12, 12, seed=8)
SOME_WISHES_TWO = WISHES_TWO + made_wishes(2, 2, 6, seed=9) + made_wishes(2, 12, 6, seed=10)


def fibonacci(many):
    """Return the number of words of so many columns with no two True side by side."""
    one, other = 1, 2
    for _ in range(many):
        one, other = other, one + other
    return one


def count_layers(begun, letters, many, step, ends):
    """Return for how many settings of so many columns out of some a step at a time comes to what ends."""
    layer = {begun: 1}
    for _ in range(many):
        longer = {}
        for there, number in layer.items():
            for letter in letters:
                behind = step(there, letter)
                longer[behind] = longer.get(behind, 0) + number
        layer = longer
    return sum(number for there, number in layer.items() if ends(there))


class AgainstAll(unittest.TestCase):
    """Counts of few columns, against going through all words and settings."""

    def test_document(self):
        self.assertEqual([count_written(LADDER, 300), count_wished(apart(1), 5), count_dead(LADDER, 2),
                          count_lost(at_most(1), 3)], [301, 13, 1, 7])

    def test_written(self):
        for inputs, writings, most in ((1, WRITINGS, 3), (2, WRITINGS_TWO, 2)):
            for writing, many in itertools.product(writings, range(1, most + 1)):
                number = sum(slow_written(writing, word) for word in all_words(inputs, many))
                self.assertEqual(leaves_alone(self, count_written, writing, many), number)
        for writing in WRITINGS_TWO:
            self.assertEqual(count_written(writing, 3), len(words(writing, 3)))
        for writing, many in itertools.product(WRITINGS[:12], (7, 12)):
            self.assertEqual(count_written(writing, many), len(words(writing, many)))

    def test_wished(self):
        for inputs, wishes in ((1, SOME_WISHES), (2, SOME_WISHES_TWO)):
            for wish, many in itertools.product(wishes, range(1, 4)):
                number = sum(wished(wish, word) for word in all_words(inputs, many))
                self.assertEqual(leaves_alone(self, count_wished, wish, many), number)

    def test_dead(self):
        found = set()
        for inputs, writings, most in ((1, WRITINGS, 3), (2, WRITINGS_TWO, 2)):
            for writing, many in itertools.product(writings, range(1, most + 1)):
                number = sum(slow_seen(writing, setting) is None for setting in all_rows(inputs, many))
                self.assertEqual(leaves_alone(self, count_dead, writing, many), number)
                found.add(number)
        self.assertGreater(len(found), 15)

    def test_dead_with_three_columns_of_two_inputs(self):
        for writing in WRITINGS_TWO[:7]:
            helpers = (None,) * (writing[1] - 2)
            number = sum(followed(writing, [column + helpers for column in setting]) is None
                         for setting in all_rows(2, 3))
            self.assertEqual(count_dead(writing, 3), number)

    def test_lost(self):
        for wish, many in itertools.product(SOME_WISHES, range(1, 4)):
            number = sum(not wished_words(wish, setting) for setting in all_rows(1, many))
            self.assertEqual(leaves_alone(self, count_lost, wish, many), number)
        for wish, many in itertools.product(SOME_WISHES_TWO, range(1, 4)):
            number = sum(not can_come(wish, setting) for setting in all_rows(2, many))
            self.assertEqual(leaves_alone(self, count_lost, wish, many), number)

    def test_writings_without_clauses(self):
        for inputs, size in ((1, 1), (1, 2), (1, 3), (1, 4), (2, 2), (2, 3), (2, 4)):
            writing = (inputs, size, (), (), (), ())
            for many in (1, 2, 3, 300):
                self.assertEqual(count_written(writing, many), 2 ** (inputs * many))
                self.assertEqual(count_dead(writing, many), 0)

    def test_one_column(self):
        writing = (1, 1, ((1,),), (), ((-2, -1), (-1, 2)), ())
        self.assertEqual([count_written(writing, 1), count_written(writing, 2)], [1, 0])
        self.assertEqual([count_dead(writing, 1), count_dead(writing, 2)], [1, 9])
        # State 0 is good, but no word of one column comes back to it.
        wish = (1, ((1, 1), (0, 1)), (True, False))
        self.assertEqual([count_wished(wish, 1), count_wished(wish, 2), count_lost(wish, 1), count_lost(wish, 2)],
                         [0, 2, 3, 3])


class ManyColumns(unittest.TestCase):

    def test_words(self):
        for many in (1, 2, 5, 50, 299, 300):
            self.assertEqual(count_wished(at_most(1), many), many + 1)
            self.assertEqual(count_wished(at_most(2), many), 1 + many + many * (many - 1) // 2)
            self.assertEqual(count_wished(just(2), many), many * (many - 1) // 2)
            self.assertEqual(count_wished(apart(1), many), fibonacci(many))
            self.assertEqual(count_written(NEAR, many), fibonacci(many))
            self.assertEqual([count_wished(WISH_EVEN, many), count_written(PARITY, many)], [2 ** (many - 1)] * 2)
            self.assertEqual([count_wished(EVERY, many), count_wished(NO_WORD, many)], [2 ** many, 0])
            self.assertEqual([count_written(FREE, many), count_written(NEVER, many)], [2 ** many, 0])
            self.assertEqual(count_written(TURNS, many), 2)
            self.assertEqual(count_written(SPLIT, many), many + 1)
            self.assertEqual(count_written(SHORT, many), fibonacci(many))

    def test_settings(self):
        for many in (1, 2, 3, 100, 299, 300):
            self.assertEqual(count_dead(NEVER, many), 3 ** many)
            self.assertEqual([count_lost(NO_WORD, many), count_lost(EVERY, many)], [3 ** many, 0])
            # At most one True, anything but True elsewhere.
            self.assertEqual(count_lost(WISH_ONE, many), 3 ** many - 2 ** many - many * 2 ** (many - 1))
            self.assertEqual(count_dead(LADDER, many), count_lost(WISH_ONE, many))
            # All told, and an odd number of them True.
            self.assertEqual([count_lost(WISH_EVEN, many), count_dead(PARITY, many)], [2 ** (many - 1)] * 2)
            # All False, or more than one True.
            self.assertEqual(count_lost(WISH_JUST_ONE, many), count_lost(WISH_ONE, many) + 1)
        self.assertEqual(len(str(count_dead(NEVER, 300))), 144)

    def test_writings_that_see_all(self):
        for writing, wish in SEEN_WHOLE:
            for many in (1, 2, 3, 7, 40, 300):
                self.assertEqual(count_written(writing, many), count_wished(wish, many))
                self.assertEqual(count_dead(writing, many), count_lost(wish, many))
        for many in (1, 9, 300):
            self.assertEqual(count_dead(COUNTER, many), count_lost(WISH_COUNTER, many))
            self.assertEqual(count_dead(NEAR, many), count_lost(WISH_NEAR, many))
            self.assertEqual(count_dead(TURNS, many), count_lost(WISH_TURNS, many))

    def test_settled_rows_step_by_step(self):
        for inputs, writings in ((1, WRITINGS[:26]), (2, WRITINGS_TWO[:8])):
            letters = [row[0] for row in all_rows(inputs, 1)]
            for writing in writings:
                def step(there, letter):
                    after = slow_starts(writing) if there is None else {new for one in there
                                                                        for new in slow_followers(writing, one)}
                    return frozenset(new for new in after if tells([new[:inputs]], [letter]))

                for many in (5, 24):
                    dead = count_layers(None, letters, many, step,
                                        lambda there: not any(slow_is_end(writing, column) for column in there))
                    self.assertEqual(count_dead(writing, many), dead)

    def test_states_step_by_step(self):
        for inputs, wishes in ((1, SOME_WISHES), (2, SOME_WISHES_TWO)):
            letters = [row[0] for row in all_rows(inputs, 1)]
            for wish in wishes:
                for many in (5, 60):
                    lost = count_layers((0,), letters, many, lambda there, letter: states_by(wish, there, letter),
                                        lambda there: not any(wish[2][state] for state in there))
                    self.assertEqual(count_lost(wish, many), lost)

    def test_three_hundred_columns(self):
        for writing in WRITINGS + WRITINGS_TWO + [HUNDREDS, HUNDREDS_TWO]:
            written, dead = count_written(writing, 300), count_dead(writing, 300)
            self.assertTrue(0 <= written <= 2 ** (300 * writing[0]))
            # No filling is found behind a dead end.
            self.assertTrue(0 <= dead <= 3 ** (300 * writing[0]) - written)
        for wish in SOME_WISHES + SOME_WISHES_TWO:
            number, lost = count_wished(wish, 300), count_lost(wish, 300)
            self.assertEqual(count_wished(wish[:2] + (tuple(not mark for mark in wish[2]),), 300),
                             2 ** (300 * wish[0]) - number)
            self.assertTrue(2 ** (300 * wish[0]) - number <= lost <= 3 ** (300 * wish[0]) - number)

    def test_by_name(self):
        self.assertEqual([count_written(many=3, writing=LADDER), count_dead(many=2, writing=LADDER)], [4, 1])
        self.assertEqual([count_wished(many=3, wish=WISH_ONE), count_lost(many=3, wish=WISH_ONE)], [4, 7])


class Errors(unittest.TestCase):

    def test_no_writing_or_wish(self):
        for many in (3, 0, None):
            for thing in strange_objects() + NO_WRITINGS:
                raises(self, InvalidWriting, count_written, thing, many)
                raises(self, InvalidWriting, count_dead, thing, many)
            for thing in strange_objects() + NO_WISHES:
                raises(self, InvalidWish, count_wished, thing, many)
                raises(self, InvalidWish, count_lost, thing, many)

    def test_no_number(self):
        things = [0, -1, 301, 302, 10 ** 10, LONG, -LONG, True, False, None, '1', 'a', '', (1,), [1], {1: 1}]
        for many in things + [thing for thing in strange_objects() if thing not in (5, 17)]:
            for function, thing in [(count_written, LADDER), (count_dead, TURNS), (count_wished, WISH_ONE),
                                    (count_lost, WISH_TURNS), (count_written, NEVER), (count_lost, NO_WORD)]:
                raises(self, InvalidNumber, function, thing, many)


if __name__ == '__main__':
    unittest.main()
