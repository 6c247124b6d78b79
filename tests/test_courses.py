"""Promise [15], and of [2] what belongs to it: courses and reasons."""

import itertools
import unittest

from followrows.courses import course, is_course, is_reason, reason
from followrows.errors import AlreadyTold, InvalidRow, InvalidWriting, IsDead, UnknownEntry
from tests.anything import LONG, leaves_alone, raises, strange_objects, with_place
from tests.reference import (LADDER, NO_WRITINGS, PARTS, all_rows, made_writings, placed_clauses, slow_followed,
                             slow_is_course, slow_is_reason, walk)

FREE = (1, 2, (), (), (), ())
# All parts are there, and from first to last each entry waits for another one.
CHAIN = (1, 2, ((1,), (1, 2)), ((-1, 2), (-2, 1)), ((-2, 3), (-4, 2)), ((-2, 1), (1, 2)))
ROW = [(None, None), (True, None)]
COURSE = [('nexts', 1, 0), ('each', 0, 1), ('each', 0, 0)]
DEAD = [(True, None), (None, None), (True, None)]
NO_ROWS = [(), ((None, None),), [], [(None,)], [(None, None), (None,)], [[None, None]], [(None, 1)], [(0, None)],
           [(None, None), None]]
# Objects that are no steps of a row of two columns of LADDER, wherever they stand.
NO_STEPS = [
    ('nexts', 2, 0), ('nexts', -1, 0), ('each', 1, 0), ('each', -1, 0), ('nexts', LONG, 0), ('each', 10 ** 20, 1),
    ('each', 0, -1), ('each', 0, -2), ('each', 0, 2), ('each', 0, LONG), ('each', 0, -LONG),
    ('nexts', 0, 1), ('nexts', 1, 1), ('nexts', 1, -1), ('nexts', 0, -2), ('first', 0, 0), ('last', 0, 1),
    ('first', 0, 1), ('last', 0, 0), ('next', 1, 0), ('Each', 0, 0), ('', 0, 0), ('each ', 0, 0), (0, 0, 0),
    (None, 0, 0), (True, 0, 0), (3, 1, 0), (('each',), 0, 0), (['each'], 0, 0), ({'each': 1}, 0, 0),
    ('nexts', True, 0), ('nexts', 1, False), ('each', False, 0), ('each', 0, True), ('each', 0, None),
    ('each', None, 0), ('each', '0', 0), ('each', 0, '0'), ('each', [0], 0), ('each', 0, [0]), ('each', (0,), 0),
    ('each', 0, (0,)), ('each', {}, 0), ('each', 0, {}),
    ['nexts', 1, 0], ['each', 0, 0], ('nexts', 1), ('each', 0), ('each',), (), ('nexts', 1, 0, 0), ('each', 0, 0, 0),
    (('each', 0, 0),), [('each', 0, 0)], 'each', {'each': (0, 0)}, None, True, 0, 1,
]


def parts_of(course_of):
    """Return lists of steps that were a course, changed in one place, and some that were changed in two."""
    places = range(len(course_of))
    found = [course_of[:place] + course_of[place + 1:] for place in places]
    found += [course_of[:place] + course_of[place:place + 1] + course_of[place:] for place in places]
    found += [course_of + course_of[place:place + 1] for place in places]
    for one, other in itertools.combinations(places, 2):
        found.append(with_place(with_place(course_of, one, course_of[other]), other, course_of[one]))
    return found + [course_of[::-1], course_of + course_of, course_of[:-1], course_of[1:], []]


def with_steps_put_in(writing, row, course_of):
    """Return a course with each step of the row put in at each place."""
    steps = [step for step, _ in placed_clauses(writing, len(row))]
    return [course_of[:place] + [step] + course_of[place:] for place in range(len(course_of) + 1) for step in steps]


def rows_of(writing):
    """Return short rows to try a writing with."""
    size = writing[1]
    rows = all_rows(size, 1)
    rows += [row for number, row in enumerate(all_rows(size, 2)) if number % (3 ** size - 2) == 0]
    return rows + [[(None,) * size] * many for many in (2, 3, 4)]


class IsCourse(unittest.TestCase):

    def test_document(self):
        self.assertIs(is_course(LADDER, ROW, COURSE), True)

    def test_another_order(self):
        self.assertIs(is_course(LADDER, ROW, [('each', 0, 1), ('nexts', 1, 0), ('each', 0, 0)]), True)
        self.assertIs(is_course(LADDER, ROW, [('nexts', 1, 0), ('each', 0, 0), ('each', 0, 1)]), True)
        self.assertIs(is_course(LADDER, ROW, [('each', 0, 0), ('nexts', 1, 0), ('each', 0, 1)]), False)
        self.assertIs(is_course(LADDER, ROW, [('each', 0, 1), ('each', 0, 0), ('nexts', 1, 0)]), False)

    def test_left_out(self):
        for place in range(3):
            self.assertIs(is_course(LADDER, ROW, COURSE[:place] + COURSE[place + 1:]), False)

    def test_doubled(self):
        for place in range(3):
            self.assertIs(is_course(LADDER, ROW, COURSE[:place + 1] + COURSE[place:]), False)
            self.assertIs(is_course(LADDER, ROW, COURSE + [COURSE[place]]), False)

    def test_put_in(self):
        for place in range(4):
            self.assertIs(is_course(LADDER, ROW, COURSE[:place] + [('nexts', 0, 0)] + COURSE[place:]), False)

    def test_ends_too_early(self):
        for many in range(3):
            self.assertIs(is_course(LADDER, ROW, COURSE[:many]), False)
        whole = course(CHAIN, [(None, None)] * 300)
        self.assertEqual(len(whole), 600)
        self.assertIs(is_course(CHAIN, [(None, None)] * 300, whole), True)
        for many in (0, 1, 299, 300, 598, 599):
            self.assertIs(is_course(CHAIN, [(None, None)] * 300, whole[:many]), False)

    def test_empty_list(self):
        for row in all_rows(2, 2):
            self.assertIs(is_course(LADDER, row, []), slow_is_course(LADDER, row, []))
            self.assertIs(is_course(FREE, row, []), True)
        self.assertIs(is_course(LADDER, [(None, None), (None, None)], []), True)
        self.assertIs(is_course(LADDER, ROW, []), False)
        self.assertIs(is_course(LADDER, [(True, False)], []), False)

    def test_broken_at_the_start(self):
        row = [(True, False), (None, None)]
        self.assertIs(is_course(LADDER, row, [('each', 0, 0)]), True)
        self.assertIs(is_course(LADDER, row, [('nexts', 0, 0)]), False)
        self.assertIs(is_course(LADDER, row, []), False)

    def test_steps_behind_a_broken_clause(self):
        row = [(None, True), (True, False), (True, None)]
        self.assertIs(is_course(LADDER, row, [('each', 0, 1)]), True)
        self.assertIs(is_course(LADDER, row, [('nexts', 0, 0)]), True)
        self.assertIs(is_course(LADDER, row, [('nexts', 1, 0)]), True)
        for more in [('each', 0, 1), ('nexts', 0, 0), ('each', 0, 2), ('nexts', 1, 0)]:
            self.assertIs(is_course(LADDER, row, [('each', 0, 1), more]), False)
        self.assertIs(is_course(LADDER, row, [('each', 0, 2), ('each', 0, 1)]), True)

    def test_broken_later(self):
        for steps, expected in [
                ([('each', 0, 0), ('nexts', 0, 0), ('nexts', 1, 1)], True),
                ([('each', 0, 0), ('nexts', 0, 0), ('nexts', 1, 1), ('each', 0, 2)], False),
                ([('each', 0, 0), ('nexts', 0, 0), ('each', 0, 2), ('nexts', 1, 1)], True),
                ([('each', 0, 0), ('nexts', 1, 0), ('nexts', 0, 0)], False),
                ([('each', 0, 0), ('nexts', 0, 0), ('each', 0, 2), ('nexts', 1, 0)], False),
                ([('each', 0, 0), ('nexts', 0, 0), ('each', 0, 2)], False),
                ([('each', 0, 0), ('nexts', 1, 1)], False),
                ([('nexts', 1, 1), ('each', 0, 0)], False)]:
            with self.subTest(steps):
                self.assertIs(is_course(LADDER, DEAD, steps), expected)
                self.assertIs(slow_is_course(LADDER, DEAD, steps), expected)

    def test_no_steps(self):
        for thing in NO_STEPS:
            for place in range(4):
                changed = COURSE[:place] + [thing] + COURSE[place:]
                self.assertIs(leaves_alone(self, is_course, LADDER, ROW, changed), False)
                if place < 3:
                    self.assertIs(is_course(LADDER, ROW, with_place(COURSE, place, thing)), False)
            self.assertIs(is_course(LADDER, ROW, [thing]), False)
            self.assertIs(is_course(LADDER, [(None, None), (None, None)], [thing]), False)

    def test_where_the_parts_are(self):
        writing = (1, 1, ((1,),), ((1,),), ((1,),), ((1,),))
        for many in (1, 2, 3, 4):
            for name, column in itertools.product(PARTS, range(-many - 1, many + 2)):
                row = [(True,)] * many
                if 0 <= column < many:
                    row[column] = (None,)
                there = {'first': column == 0, 'each': 0 <= column < many, 'nexts': 0 <= column < many - 1,
                         'last': column == many - 1}[name]
                self.assertIs(is_course(writing, row, [(name, 0, column)]), there)

    def test_a_tuple_for_the_list(self):
        self.assertIs(is_course(LADDER, ROW, tuple(COURSE)), False)
        self.assertIs(is_course(FREE, ROW, ()), False)
        self.assertIs(is_course(LADDER, ROW, [list(step) for step in COURSE]), False)

    def test_strange_objects(self):
        for thing in strange_objects():
            self.assertIs(leaves_alone(self, is_course, LADDER, ROW, thing), False)
            self.assertIs(is_course(LADDER, ROW, [thing]), False)
            self.assertIs(is_course(LADDER, ROW, COURSE + [thing]), False)
            self.assertIs(is_course(FREE, ROW, thing), thing == [])
            for place in range(3):
                step = ('each', 0, 1) if place == 0 else COURSE[0]
                if place == 2 and thing.__class__ is int and thing == 0:
                    continue
                self.assertIs(is_course(LADDER, ROW, [with_place(step, place, thing)] + COURSE[1:]), False)

    def test_short_rows_against_going_through_the_steps(self):
        for size, writings in ((1, 12), (2, 12), (3, 4)):
            for writing in made_writings(1, size, writings, seed=40 + size):
                for row in rows_of(writing):
                    made = course(writing, row)
                    things = [made] + parts_of(made) + with_steps_put_in(writing, row, made)
                    for thing in things:
                        self.assertIs(is_course(writing, row, thing), slow_is_course(writing, row, thing),
                                      (writing, row, thing))

    def test_all_short_lists_of_steps(self):
        writing = (1, 2, ((-1, 2),), ((-2, 1), (2,)), ((-3, -2), (1, 4)), ((-1,),))
        for row in ([(None, None)], [(None, None)] * 2, [(True, None), (None, None)], [(None, False), (None, None)]):
            steps = [step for step, _ in placed_clauses(writing, len(row))]
            for many in range(4):
                for thing in itertools.product(steps, repeat=many):
                    self.assertIs(is_course(writing, row, list(thing)), slow_is_course(writing, row, list(thing)))

    def test_by_name(self):
        self.assertIs(is_course(thing=COURSE, row=ROW, writing=LADDER), True)


class Course(unittest.TestCase):

    def check(self, writing, row):
        """Fail unless what course returns is a course, step by step and as is_course says; return it."""
        made = leaves_alone(self, course, writing, row)
        self.assertIs(made.__class__, list)
        self.assertTrue(slow_is_course(writing, row, made), (writing, row, made))
        self.assertIs(is_course(writing, row, made), True, (writing, row, made))
        left, _, broken = walk(writing, row, made)
        self.assertEqual(slow_followed(writing, row), None if broken else [tuple(column) for column in left])
        return made

    def test_short_rows(self):
        for size, many, writings in ((1, 3, 30), (2, 2, 30), (3, 1, 20), (4, 1, 5)):
            for writing in made_writings(1, size, writings, seed=50 + size):
                for row in all_rows(size, many) + rows_of(writing):
                    self.check(writing, row)

    def test_document(self):
        self.assertEqual(len(self.check(LADDER, ROW)), 3)
        self.check(LADDER, DEAD)
        self.check(LADDER, [(True, False)])

    def test_hundreds_of_columns(self):
        self.assertEqual(len(self.check(CHAIN, [(None, None)] * 300)), 600)
        for place in (0, 1, 150, 299):
            row = [(None, None)] * 300
            row[place] = (None, False)
            self.check(CHAIN, row)
            row[place] = (True, None)
            self.check(LADDER, row)
        for writing in made_writings(1, 4, 10, seed=55, clauses=6):
            self.check(writing, [(None, None, None, None), (True, None, None, False), (None,) * 4] * 100)

    def test_nothing_to_tell(self):
        self.assertEqual(course(LADDER, [(None, None)]), [])
        self.assertEqual(course(FREE, [(None, True)] * 300), [])

    def test_a_new_list_at_each_call(self):
        for writing, row in [(LADDER, ROW), (LADDER, [(None, None)]), (LADDER, DEAD)]:
            one, other = course(writing, row), course(writing, row)
            self.assertIsNot(one, other)
            one.append('more')
            self.assertTrue(is_course(writing, row, course(writing, row)))
            self.assertTrue(is_course(writing, row, other))

    def test_kinds(self):
        for step in course(CHAIN, [(None, None)] * 3):
            self.assertEqual([step.__class__] + [part.__class__ for part in step], [tuple, str, int, int])

    def test_by_name(self):
        self.assertTrue(is_course(LADDER, ROW, course(row=ROW, writing=LADDER)))


class IsReason(unittest.TestCase):

    def test_document(self):
        self.assertIs(is_reason(LADDER, ROW, 0, 1, [('nexts', 1, 0), ('each', 0, 0)]), True)
        self.assertIs(is_reason(LADDER, ROW, 0, 2, [('nexts', 1, 0)]), True)

    def test_the_last_step_tells_the_entry(self):
        told = [(0, 2), (1, 2), (0, 1)]
        entries = [(0, 1), (0, 2), (1, 2)]
        for many, entry in itertools.product(range(4), entries):
            expected = many > 0 and told[many - 1] == entry
            self.assertIs(is_reason(LADDER, ROW, *entry, COURSE[:many]), expected)

    def test_steps_that_are_not_needed(self):
        self.assertIs(is_reason(LADDER, ROW, 0, 1, COURSE), True)
        self.assertIs(is_reason(LADDER, ROW, 0, 1, [('each', 0, 1), ('nexts', 1, 0), ('each', 0, 0)]), True)
        self.assertIs(is_reason(LADDER, ROW, 0, 1, [('nexts', 1, 0), ('each', 0, 0), ('each', 0, 1)]), False)

    def test_left_out_doubled_exchanged_and_put_in(self):
        steps = [('nexts', 1, 0), ('each', 0, 0)]
        for thing in [steps[:1], steps[1:], steps[::-1], steps + steps, steps[:1] + steps, steps + steps[1:], [],
                      [('nexts', 0, 0)] + steps, [steps[0], ('nexts', 0, 0), steps[1]], steps + [('nexts', 0, 0)]]:
            with self.subTest(thing):
                self.assertIs(is_reason(LADDER, ROW, 0, 1, thing), False)

    def test_empty_list(self):
        for column, sign in [(0, 1), (0, 2), (1, 2)]:
            self.assertIs(is_reason(LADDER, ROW, column, sign, []), False)
        self.assertIs(is_reason(FREE, ROW, 0, 1, []), False)

    def test_no_steps(self):
        steps = [('nexts', 1, 0), ('each', 0, 0)]
        for thing in NO_STEPS:
            for place in range(3):
                changed = steps[:place] + [thing] + steps[place:]
                self.assertIs(leaves_alone(self, is_reason, LADDER, ROW, 0, 1, changed), False)
                if place < 2:
                    self.assertIs(is_reason(LADDER, ROW, 0, 1, with_place(steps, place, thing)), False)
            self.assertIs(is_reason(LADDER, ROW, 0, 2, [thing]), False)

    def test_a_tuple_for_the_list(self):
        self.assertIs(is_reason(LADDER, ROW, 0, 2, (('nexts', 1, 0),)), False)
        self.assertIs(is_reason(LADDER, ROW, 0, 2, [['nexts', 1, 0]]), False)

    def test_strange_objects(self):
        for thing in strange_objects():
            self.assertIs(leaves_alone(self, is_reason, LADDER, ROW, 0, 2, thing), False)
            self.assertIs(is_reason(LADDER, ROW, 0, 2, [thing]), False)
            self.assertIs(is_reason(LADDER, ROW, 0, 2, [('nexts', 1, 0), thing]), False)
            self.assertIs(is_reason(LADDER, ROW, 0, 2, [thing, ('nexts', 1, 0)]), False)
            self.assertIs(is_reason(FREE, ROW, 0, 2, thing), False)

    def test_short_rows_against_going_through_the_steps(self):
        for size, writings in ((1, 12), (2, 12), (3, 3)):
            for writing in made_writings(1, size, writings, seed=60 + size):
                for row in rows_of(writing):
                    if slow_followed(writing, row) is None:
                        continue
                    made = course(writing, row)
                    things = [made[:many] for many in range(len(made) + 1)] + parts_of(made)
                    for column, sign in itertools.product(range(len(row)), range(1, size + 1)):
                        if row[column][sign - 1] is not None:
                            continue
                        for thing in things:
                            self.assertIs(is_reason(writing, row, column, sign, thing),
                                          slow_is_reason(writing, row, column, sign, thing),
                                          (writing, row, column, sign, thing))

    def test_by_name(self):
        self.assertIs(is_reason(thing=[('nexts', 1, 0)], sign=2, column=0, row=ROW, writing=LADDER), True)


class Reason(unittest.TestCase):

    def check(self, writing, row, column, sign):
        """Fail unless what reason returns is a reason just where following tells the entry."""
        made = leaves_alone(self, reason, writing, row, column, sign)
        if slow_followed(writing, row)[column][sign - 1] is None:
            self.assertIsNone(made)
        else:
            self.assertIs(made.__class__, list)
            self.assertTrue(slow_is_reason(writing, row, column, sign, made), (writing, row, column, sign, made))
            self.assertIs(is_reason(writing, row, column, sign, made), True, (writing, row, column, sign, made))

    def test_document(self):
        self.check(LADDER, ROW, 0, 2)
        self.assertIsNone(reason(LADDER, [(None, None)], 0, 2))

    def test_short_rows(self):
        for size, many, writings in ((1, 3, 30), (2, 2, 30), (3, 1, 20), (4, 1, 4)):
            for writing in made_writings(1, size, writings, seed=70 + size):
                for row in all_rows(size, many) + rows_of(writing):
                    if slow_followed(writing, row) is None:
                        continue
                    for column, sign in itertools.product(range(len(row)), range(1, size + 1)):
                        if row[column][sign - 1] is None:
                            self.check(writing, row, column, sign)

    def test_hundreds_of_columns(self):
        row = [(None, None)] * 300
        for column, sign in itertools.product((0, 1, 150, 298, 299), (1, 2)):
            self.check(CHAIN, row, column, sign)
        row[150] = (True, None)
        for column in (0, 149, 151, 299):
            self.check(LADDER, row, column, 1)
            self.check(LADDER, row, column, 2)
        row = [(None, None)] * 299 + [(None, True)]
        for column in (0, 298):
            self.assertIsNone(reason(LADDER, row, column, 1))
            self.assertIsNone(reason(LADDER, row, column, 2))
        self.assertIsNone(reason(LADDER, row, 299, 1))

    def test_a_new_list_at_each_call(self):
        one, other = reason(LADDER, ROW, 0, 1), reason(LADDER, ROW, 0, 1)
        self.assertIsNot(one, other)
        one.clear()
        self.assertTrue(is_reason(LADDER, ROW, 0, 1, other))
        self.assertTrue(is_reason(LADDER, ROW, 0, 1, reason(LADDER, ROW, 0, 1)))

    def test_kinds(self):
        for step in reason(CHAIN, [(None, None)] * 3, 0, 2):
            self.assertEqual([step.__class__] + [part.__class__ for part in step], [tuple, str, int, int])

    def test_by_name(self):
        self.assertTrue(is_reason(LADDER, ROW, 0, 1, reason(sign=1, column=0, row=ROW, writing=LADDER)))


class Errors(unittest.TestCase):

    def calls(self):
        """Return both functions for entries, each as one of (writing, row, column, sign)."""
        things = [[], [('nexts', 1, 0)], None, 'a', 5]
        judges = [lambda *rest, thing=thing: is_reason(*rest, thing) for thing in things]
        return [reason] + judges

    def test_no_writing(self):
        for thing in strange_objects() + NO_WRITINGS:
            raises(self, InvalidWriting, course, thing, ROW)
            raises(self, InvalidWriting, is_course, thing, ROW, [])
            for call in self.calls():
                raises(self, InvalidWriting, call, thing, ROW, 0, 1)

    def test_no_row(self):
        for thing in strange_objects() + NO_ROWS:
            raises(self, InvalidRow, course, LADDER, thing)
            raises(self, InvalidRow, is_course, LADDER, thing, [])
            for call in self.calls():
                raises(self, InvalidRow, call, LADDER, thing, 0, 1)

    def test_no_entry(self):
        wrong = [-1, -2, -LONG, LONG, 10 ** 20, True, False, None, '', '0', '1', 'a', [], [0], [1], (), (1,), {}, {1: 1}]
        for call in self.calls():
            for thing in wrong + [2, 3]:
                raises(self, UnknownEntry, call, LADDER, ROW, thing, 2)
                raises(self, UnknownEntry, call, LADDER, ROW, thing, 1)
            for thing in wrong + [0, 3, 4]:
                raises(self, UnknownEntry, call, LADDER, ROW, 0, thing)
                raises(self, UnknownEntry, call, LADDER, ROW, 1, thing)

    def test_no_entry_for_strange_objects(self):
        for thing in strange_objects():
            if thing.__class__ is not int or not 0 <= thing <= 2:
                for call in self.calls():
                    raises(self, UnknownEntry, call, LADDER, ROW, thing, 1)
                    raises(self, UnknownEntry, call, LADDER, ROW, 0, thing)
                    raises(self, UnknownEntry, call, LADDER, ROW, thing, thing)

    def test_columns_and_signs_at_the_edges(self):
        for many, size in itertools.product((1, 2, 300), range(1, 5)):
            writing, row = (1, size, (), (), (), ()), [(None,) * size] * many
            for column, sign in itertools.product((-1, 0, many - 1, many), (-1, 0, 1, size, size + 1)):
                if 0 <= column < many and 1 <= sign <= size:
                    self.assertIsNone(reason(writing, row, column, sign))
                    self.assertIs(is_reason(writing, row, column, sign, []), False)
                else:
                    for call in self.calls():
                        raises(self, UnknownEntry, call, writing, row, column, sign)

    def test_already_told(self):
        row = [(True, None), (None, False), (False, True)]
        for call in self.calls():
            for column, sign in [(0, 1), (1, 2), (2, 1), (2, 2)]:
                raises(self, AlreadyTold, call, FREE, row, column, sign)
        self.assertIsNone(reason(FREE, row, 0, 2))
        self.assertIsNone(reason(FREE, row, 1, 1))

    def test_dead_ends(self):
        for call in self.calls():
            for column, sign in [(0, 2), (1, 1), (1, 2), (2, 2)]:
                raises(self, IsDead, call, LADDER, DEAD, column, sign)
            raises(self, IsDead, call, LADDER, [(True, False), (None, None)], 1, 1)
            raises(self, IsDead, call, CHAIN, [(None, None)] * 299 + [(None, False)], 0, 1)

    def test_right_steps_to_a_dead_end(self):
        for steps in [[('each', 0, 0)], [('each', 0, 0), ('nexts', 0, 0), ('nexts', 1, 1)]]:
            raises(self, IsDead, is_reason, LADDER, DEAD, 0, 2, steps)

    def test_order(self):
        for call in self.calls():
            for thing in [None, [], 'a', [(1,)]]:
                raises(self, InvalidWriting, call, None, thing, -1, 0)
                raises(self, InvalidWriting, call, list(LADDER), ROW, thing, thing)
                raises(self, InvalidRow, call, LADDER, thing, -1, 0)
                raises(self, InvalidRow, call, LADDER, [(None,)], thing, thing)
                raises(self, UnknownEntry, call, LADDER, DEAD, thing, 1)
                raises(self, UnknownEntry, call, LADDER, DEAD, 0, thing)
            raises(self, UnknownEntry, call, LADDER, DEAD, 3, 1)
            raises(self, UnknownEntry, call, LADDER, DEAD, 0, 0)
            raises(self, AlreadyTold, call, LADDER, DEAD, 0, 1)
            raises(self, AlreadyTold, call, LADDER, [(True, False)], 0, 2)
        for thing in [None, [], 'a', [(1,)]]:
            raises(self, InvalidWriting, course, None, thing)
            raises(self, InvalidWriting, is_course, None, thing, thing)
            raises(self, InvalidRow, is_course, LADDER, thing, thing)


if __name__ == '__main__':
    unittest.main()
