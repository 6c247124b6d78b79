"""Promises [26] and [11] over it, and of [2] what belongs to them: writings turned and joined."""

import itertools
import random
import unittest

from followrows.alike import are_alike
from followrows.clauses import is_writing, writing_of
from followrows.errors import InvalidMatch, InvalidWriting, TooMany, UnknownSign
from followrows.following import followed, seen
from followrows.lemmas import holds, is_followed, is_kept
from followrows.right import is_right
from followrows.turned import flipped, joined, mirrored
from followrows.words import words
from tests.anything import LONG, leaves_alone, raises, strange_objects
from tests.reference import LADDER, NO_WRITINGS, all_clauses, all_rows, made_writings, slow_followed
from tests.tables import (COUNTER, EVERY, FREE, JUST_ONE, KNOWN, KNOWN_TWO, NEAR, NEVER, PARITY, SPLIT, TURNS,
                          slow_seen, slow_written, words_up_to)

SHAPES = [(1, 1), (1, 2), (1, 3), (1, 4), (2, 2), (2, 3), (2, 4)]
WRITINGS = [writing for inputs, size in SHAPES for writing in made_writings(inputs, size, 12, seed=size, clauses=5)]
WRITINGS += KNOWN + KNOWN_TWO + [LADDER]
# Writings with so few signs that two of them can be joined.
SMALL = KNOWN[:1] + KNOWN[2:] + made_writings(1, 1, 4, seed=1) + made_writings(1, 2, 6, seed=2)
SMALL_TWO = KNOWN_TWO + made_writings(2, 2, 4, seed=3) + made_writings(2, 3, 4, seed=4)


def some_rows(size, many, seed):
    """Return rows of so many signs and columns: all, or so many that going through them takes no time."""
    rows = all_rows(size, many) if size * many <= 6 else None
    picks = random.Random(seed)
    if rows is None:
        rows = [[tuple(picks.choice((None, None, False, True)) for _ in range(size)) for _ in range(many)]
                for _ in range(60)]
    return rows if len(rows) <= 60 else picks.sample(rows, 60)


def other_column(size, literal):
    """Return a literal of twice so many signs with its sign in the other one of both columns."""
    return {sign * mark: (sign + size if sign <= size else sign - size) * mark
            for sign in range(1, 2 * size + 1) for mark in (1, -1)}[literal]


def turned_lemma(size, lemma):
    """Return a lemma with both columns exchanged."""
    return tuple(sorted(other_column(size, literal) for literal in lemma))


def negated(part, signs):
    """Return a part with the literals of some signs negated."""
    return tuple(tuple(sorted(-literal if abs(literal) in signs else literal for literal in clause)) for clause in part)


class Mirrored(unittest.TestCase):

    def test_document(self):
        self.assertEqual(mirrored(LADDER), (1, 2, (), ((-1, 2),), ((-4, 2), (-4, -1)), ()))

    def test_each_part(self):
        for writing in WRITINGS:
            inputs, size, first, each, nexts, last = writing
            found = leaves_alone(self, mirrored, writing)
            self.assertIs(is_writing(found), True)
            turned = tuple(turned_lemma(size, clause) for clause in nexts)
            self.assertEqual(found, (inputs, size, last, each, turned, first))

    def test_twice(self):
        for writing in WRITINGS:
            self.assertEqual(mirrored(mirrored(writing)), writing)

    def test_full_parts(self):
        nexts = tuple(all_clauses(8, 2)[:16])
        writing = (1, 4, tuple(all_clauses(4, 2)[:16]), ((1,),), nexts, ((-4, 3),))
        found = mirrored(writing)
        self.assertEqual([found[2], found[3], found[5]], [((-4, 3),), ((1,),), writing[2]])
        self.assertEqual(len(found[4]), 16)
        self.assertEqual(mirrored(found), writing)

    def test_rows_are_followed_from_the_other_end(self):
        for number, writing in enumerate(WRITINGS):
            for many in (1, 2, 3):
                for row in some_rows(writing[1], many, number):
                    left = slow_followed(writing, row)
                    self.assertEqual(followed(mirrored(writing), row[::-1]), None if left is None else left[::-1])

    def test_settings_are_seen_from_the_other_end(self):
        for number, writing in enumerate(WRITINGS):
            for setting in some_rows(writing[0], 4, number):
                sight = seen(writing, setting)
                self.assertEqual(seen(mirrored(writing), setting[::-1]), None if sight is None else sight[::-1])

    def test_lemmas(self):
        for writing in (LADDER, JUST_ONE, PARITY, SPLIT, TURNS):
            lemmas = all_clauses(2 * writing[1], 2)
            for lemma in lemmas[::1 + len(lemmas) // 30]:
                for function in (holds, is_followed, is_kept):
                    self.assertIs(function(mirrored(writing), turned_lemma(writing[1], lemma)), function(writing, lemma))

    def test_words(self):
        for writing in (LADDER, JUST_ONE, PARITY, NEAR):
            found = sorted(words(mirrored(writing), 4))
            self.assertEqual(found, sorted(word[::-1] for word in words(writing, 4)))

    def test_by_name(self):
        self.assertEqual(mirrored(writing=FREE), FREE)

    def test_no_writing(self):
        for thing in strange_objects() + NO_WRITINGS:
            raises(self, InvalidWriting, mirrored, thing)


class Flipped(unittest.TestCase):

    def test_document(self):
        self.assertEqual(flipped(LADDER, 2), (1, 2, (), ((-2, -1),), ((-4, 2), (-3, 2)), ()))

    def test_each_part(self):
        for writing in WRITINGS:
            inputs, size, first, each, nexts, last = writing
            for sign in range(1, size + 1):
                found = leaves_alone(self, flipped, writing, sign)
                self.assertIs(is_writing(found), True)
                self.assertEqual(found, (inputs, size, negated(first, [sign]), negated(each, [sign]),
                                         negated(nexts, [sign, sign + size]), negated(last, [sign])))

    def test_twice(self):
        for writing in WRITINGS:
            for sign in range(1, writing[1] + 1):
                self.assertEqual(flipped(flipped(writing, sign), sign), writing)

    def test_rows_are_followed_with_the_sign_flipped(self):
        for number, writing in enumerate(WRITINGS):
            for sign in range(1, writing[1] + 1):
                for row in some_rows(writing[1], 2, number):
                    left = slow_followed(writing, row)
                    expected = None if left is None else self.turned(left, sign)
                    self.assertEqual(followed(flipped(writing, sign), self.turned(row, sign)), expected)

    def turned(self, row, sign):
        """Return a row with a sign of each column True where it is False, and the other way."""
        return [tuple(not entry if place == sign - 1 and entry is not None else entry
                      for place, entry in enumerate(column)) for column in row]

    def test_a_helper_changes_nothing_that_is_seen(self):
        for number, writing in enumerate(WRITINGS):
            for sign in range(writing[0] + 1, writing[1] + 1):
                for setting in some_rows(writing[0], 4, number):
                    self.assertEqual(seen(flipped(writing, sign), setting), seen(writing, setting))
        for writing in (LADDER, JUST_ONE, PARITY, SPLIT):
            self.assertIs(are_alike(writing, flipped(writing, 2)), True)

    def test_an_input(self):
        self.assertEqual(flipped(NEAR, 1), (1, 1, (), (), ((1, 2),), ()))
        self.assertEqual(words(flipped(NEAR, 1), 2), [[(False,), (True,)], [(True,), (False,)], [(True,), (True,)]])
        self.assertEqual(flipped(TURNS, 2), (2, 2, (), ((-1, 2), (-2, 1)), ((-3, -1), (2, 4)), ()))

    def test_by_name(self):
        self.assertEqual(flipped(sign=1, writing=NEVER), (1, 1, (), ((1,), (-1,)), (), ()))

    def test_no_writing(self):
        for thing in strange_objects() + NO_WRITINGS:
            for sign in (1, 0, None):
                raises(self, InvalidWriting, flipped, thing, sign)

    def test_no_sign(self):
        for writing in [FREE, LADDER, SPLIT, TURNS, (1, 4, (), (), (), ())]:
            signs = [0, -1, writing[1] + 1, 2 * writing[1], True, False, None, '1', 'a', '', LONG, (1,), [1], {1: 1}]
            for sign in signs + [thing for thing in strange_objects() if thing not in range(1, 5)]:
                if sign.__class__ is bool or sign not in range(1, writing[1] + 1):
                    raises(self, UnknownSign, flipped, writing, sign)


class Joined(unittest.TestCase):

    def test_document(self):
        other = writing_of(1, 2, first=[(-2, 1)], last=[(2,)])
        self.assertEqual(joined(LADDER, other), (1, 3, ((-3, 1),), ((-1, 2),), ((-2, 5), (-4, -2)), ((3,),)))

    def test_unlike_numbers_of_helpers(self):
        one = (1, 3, ((1, 2, 3),), ((-3, 1),), ((-6, 1, 4), (-5, 2)), ((3,),))
        other = (1, 2, ((1, 2),), ((2,),), ((-4, -3, 1, 2),), ((-2,),))
        self.assertEqual(joined(one, other), (1, 4, ((1, 2, 3), (1, 4)), ((-3, 1), (4,)),
                                              ((-7, 1, 5), (-6, 2), (-8, -5, 1, 4)), ((3,), (-4,))))
        self.assertEqual(joined(other, one), (1, 4, ((1, 2), (1, 3, 4)), ((2,), (-4, 1)),
                                              ((-6, -5, 1, 2), (-8, 1, 5), (-7, 3)), ((-2,), (4,))))
        self.assertEqual(joined(one, FREE), one)
        self.assertEqual(joined(FREE, one), one)

    def test_two_inputs(self):
        one = (2, 3, ((1, 2),), ((-3, 1, 2),), ((-6, 3), (-5, -4)), ())
        other = (2, 3, ((1, 2), (3,)), ((-3, -2),), ((-5, -4), (-6, -3)), ((-3, 1),))
        self.assertEqual(joined(one, other), (2, 4, ((1, 2), (4,)), ((-3, 1, 2), (-4, -2)),
                                              ((-7, 3), (-6, -5), (-8, -4)), ((-4, 1),)))

    def test_clauses_that_stand_in_both(self):
        one = (1, 1, ((1,), (-1,)), (), ((-2, -1), (1, 2)), ())
        other = (1, 1, ((-1,), (1,)), ((1,),), ((1, 2), (-2, 1)), ())
        self.assertEqual(joined(one, other), (1, 1, ((1,), (-1,)), ((1,),), ((-2, -1), (1, 2), (-2, 1)), ()))
        self.assertEqual(joined(other, one), (1, 1, ((-1,), (1,)), ((1,),), ((1, 2), (-2, 1), (-2, -1)), ()))
        # Before they are renumbered, these clauses are alike as well; behind that, others are.
        one, other = (1, 2, ((-2, 1),), (), ((-3, -1), (2, 4)), ()), (1, 3, ((-2, 1), (1,)), (), ((-4, -1), (2, 4)), ())
        self.assertEqual(joined(one, other), (1, 4, ((-2, 1), (-3, 1), (1,)), (), ((-5, -1), (2, 6), (3, 5)), ()))

    def test_of_a_writing_with_itself(self):
        self.assertEqual(joined(NEAR, NEAR), NEAR)
        self.assertEqual(joined(TURNS, TURNS), TURNS)
        self.assertEqual(joined(LADDER, LADDER), (1, 3, (), ((-1, 2), (-1, 3)),
                                                  ((-2, 5), (-4, -2), (-3, 6), (-4, -3)), ()))
        for writing in SMALL + SMALL_TWO:
            if 2 * writing[1] - writing[0] <= 4:
                self.assertIs(are_alike(joined(writing, writing), writing), True)

    def pairs(self):
        """Return pairs of writings that can be joined."""
        pairs = list(itertools.product(SMALL, repeat=2)) + list(itertools.product(SMALL_TWO, repeat=2))
        return [(one, other) for one, other in pairs if one[1] + other[1] - one[0] <= 4]

    def test_sees_what_both_see_in_turns(self):
        pairs = self.pairs()
        self.assertGreater(len(pairs), 300)
        for number, (one, other) in enumerate(pairs):
            found = leaves_alone(self, joined, one, other)
            self.assertIs(is_writing(found), True)
            for setting in some_rows(one[0], 3, number)[:20]:
                self.assertEqual(seen(found, setting), self.in_turns(one, other, setting))

    def in_turns(self, one, other, setting):
        """Return what two writings see in turns until nothing more is told."""
        before = None
        while setting is not None and setting != before:
            before = setting
            setting = slow_seen(one, setting)
            setting = None if setting is None else slow_seen(other, setting)
        return setting

    def test_writes_what_both_write(self):
        for one, other in self.pairs()[::5]:
            found = joined(one, other)
            for word in words_up_to(one[0], 3 if one[0] == 1 else 2):
                self.assertIs(word in words(found, len(word)), slow_written(one, word) and slow_written(other, word))

    def test_the_other_way_round(self):
        for one, other in self.pairs()[::7]:
            self.assertIs(are_alike(joined(one, other), joined(other, one)), True)
        self.assertIs(is_right(joined(FREE, FREE), EVERY), True)

    def test_as_many_signs_as_there_can_be(self):
        self.assertEqual(joined((1, 2, (), (), (), ()), (1, 3, (), (), (), ()))[:2], (1, 4))
        self.assertEqual(joined((2, 4, (), (), (), ()), (2, 2, (), (), (), ()))[:2], (2, 4))
        for inputs, one, other in [(1, 3, 3), (1, 2, 4), (1, 4, 2), (1, 4, 4), (2, 4, 3), (2, 3, 4), (2, 4, 4)]:
            pair = [(inputs, size, (), (), (), ()) for size in (one, other)]
            raises(self, TooMany, joined, *pair)

    def test_as_many_clauses_as_there_can_be(self):
        own, twice = all_clauses(2, 2), all_clauses(4, 2)
        for place, clauses in [(2, own), (3, own), (4, twice), (5, own)]:
            part = tuple(clauses[:8])
            one = tuple(part if at == place else () for at in range(2, 6))
            # The clauses of inputs alone come together, those with a helper do not.
            joint = [clause for clause in part if all(abs(literal) % 2 for literal in clause)]
            found = joined((1, 2, *one), (1, 2, *one))
            self.assertEqual(len(found[place]), 16 - len(joint))
            more = tuple(clause for clause in all_clauses(8 if place == 4 else 4, 3)
                         if not any(abs(literal) in (1, 5) for literal in clause))
            for kept in range(17):
                one = tuple(more[:16 - kept] if at == place else () for at in range(2, 6))
                other = tuple(((1,), (-1,))[:kept] if at == place else () for at in range(2, 6))
                found = joined((1, 4, *one), (1, 1, *other))
                self.assertEqual(len(found[place]), 16 - kept + min(kept, 2))
            one = tuple(more[:16] if at == place else () for at in range(2, 6))
            for clause in ((1,), (-1,)):
                other = tuple((clause,) if at == place else () for at in range(2, 6))
                raises(self, TooMany, joined, (1, 4, *one), (1, 1, *other))
                raises(self, TooMany, joined, (1, 1, *other), (1, 4, *one))

    def test_sixteen_clauses_that_stand_in_both(self):
        part = tuple(all_clauses(4, 2)[:16])
        writing = (2, 2, (), (), part, ())
        self.assertEqual(joined(writing, writing), writing)
        self.assertEqual(joined(writing, (2, 2, (), (), part[::-1], ())), writing)
        raises(self, TooMany, joined, writing, (2, 2, (), (), (all_clauses(4, 2)[16],), ()))

    def test_by_name(self):
        self.assertEqual(joined(other=LADDER, one=NEAR), (1, 2, (), ((-1, 2),), ((-3, -1), (-2, 4), (-3, -2)), ()))

    def test_no_writings(self):
        for thing in strange_objects() + NO_WRITINGS:
            for other in (LADDER, COUNTER, None):
                raises(self, InvalidWriting, joined, thing, other)
            raises(self, InvalidWriting, joined, LADDER, thing)
            raises(self, InvalidWriting, joined, COUNTER, thing)

    def test_no_match(self):
        for one, other in itertools.product([FREE, LADDER, COUNTER, (1, 4, (), (), (), ())],
                                            [TURNS, (2, 4, (), (), (), ())]):
            raises(self, InvalidMatch, joined, one, other)
            raises(self, InvalidMatch, joined, other, one)


if __name__ == '__main__':
    unittest.main()
