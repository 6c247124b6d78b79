"""Promises [6] and [14], and of [2] what belongs to them: following."""

import unittest

from followrows.errors import InvalidRow, InvalidSetting, InvalidWriting
from followrows.following import followed, seen
from tests.anything import leaves_alone, raises, strange_objects
from tests.reference import LADDER, NO_WRITINGS, all_rows, made_writings, slow_followed

FREE = (1, 2, (), (), (), ())
# The input of the first column goes to all columns, there it turns, and comes back as the helper.
THERE_AND_BACK = (1, 2, ((1,),), (), ((-1, 3), (-4, 2)), ((-1, 2),))
# Each clause of one literal tells another sign, and in another place.
SINGLES = (1, 4, ((-2,),), ((1,),), (), ((3,),))
NO_ROWS = [(), ((None, None),), [], [(None,)], [(None, None), (None,)], [[None, None]], [(None, 1)], [(0, None)],
           [(None, None), (None, None, None)], [(None, None), None]]


def nothing(size, many):
    """Return the row of so many columns in which nothing is told."""
    return [(None,) * size] * many


class Followed(unittest.TestCase):

    def test_document(self):
        self.assertEqual(followed(LADDER, [(None, None), (True, None), (None, None)]),
                         [(False, False), (True, True), (False, True)])

    def test_there_and_back(self):
        for many in (1, 2, 3, 50, 300):
            with self.subTest(many):
                self.assertEqual(followed(THERE_AND_BACK, nothing(2, many)), [(True, True)] * many)

    def test_there_and_back_from_a_middle_column(self):
        writing = (1, 2, (), (), ((-1, 3), (-4, 2)), ((-1, 2),))
        row = nothing(2, 300)
        row[100] = (True, None)
        self.assertEqual(followed(writing, row), [(None, True)] * 100 + [(True, True)] * 200)

    def test_from_the_right_to_the_left_and_back(self):
        writing = (1, 2, ((-1, 2),), (), ((-3, 1), (-2, 4)), ((1,),))
        for many in (1, 2, 3, 300):
            self.assertEqual(followed(writing, nothing(2, many)), [(True, True)] * many)

    def test_turning_in_each_column(self):
        # One column's signs are told one after the other, backwards, before the next column's first one.
        writing = (1, 4, ((4,),), ((-4, -3), (-2, 3), (1, 2)), ((-1, 8),), ())
        for many in (1, 2, 300):
            self.assertEqual(followed(writing, nothing(4, many)), [(True, False, False, True)] * many)

    def test_dead_end_at_the_start(self):
        for column in (0, 1, 149, 298):
            row = nothing(2, 300)
            row[column] = (None, True)
            row[column + 1] = (True, None)
            self.assertIsNone(followed(LADDER, row))
        self.assertIsNone(followed(LADDER, [(True, False)]))
        self.assertIsNone(followed(LADDER, [(None, None), (True, False), (None, None)]))

    def test_dead_end_at_the_start_by_each_part(self):
        for place in range(2, 6):
            parts = [(), (), (), ()]
            parts[place - 2] = ((-2, 1),)
            writing = (1, 2, *parts)
            for many in (1, 2, 5):
                for column in range(many):
                    row = nothing(2, many)
                    row[column] = (False, True)
                    there = {2: column == 0, 3: True, 4: column < many - 1, 5: column == many - 1}[place]
                    self.assertEqual(followed(writing, row), None if there else row)

    def test_dead_end_later(self):
        row = nothing(2, 300)
        row[299] = (None, False)
        self.assertIsNone(followed(THERE_AND_BACK, row))
        row = nothing(2, 300)
        row[0] = (None, False)
        self.assertIsNone(followed(THERE_AND_BACK, row))
        row = nothing(2, 300)
        row[150] = (False, None)
        self.assertIsNone(followed(THERE_AND_BACK, row))
        self.assertIsNone(followed(LADDER, [(True, None), (None, None), (True, None)]))

    def test_a_dead_end_by_two_clauses_of_one_literal(self):
        self.assertIsNone(followed((1, 1, ((1,),), ((-1,),), (), ()), [(None,)]))
        self.assertIsNone(followed((1, 1, ((1,),), (), (), ((-1,),)), [(None,)]))
        self.assertEqual(followed((1, 1, ((1,),), (), (), ((-1,),)), nothing(1, 2)), [(True,), (False,)])

    def test_clauses_of_one_literal(self):
        self.assertEqual(followed(SINGLES, nothing(4, 1)), [(True, False, True, None)])
        self.assertEqual(followed(SINGLES, nothing(4, 2)), [(True, False, None, None), (True, None, True, None)])
        self.assertEqual(followed(SINGLES, nothing(4, 3)),
                         [(True, False, None, None), (True, None, None, None), (True, None, True, None)])

    def test_clauses_of_one_literal_in_nexts(self):
        writing = (1, 2, (), (), ((1,), (-4,)), ())
        self.assertEqual(followed(writing, nothing(2, 1)), [(None, None)])
        self.assertEqual(followed(writing, nothing(2, 2)), [(True, None), (None, False)])
        self.assertEqual(followed(writing, nothing(2, 3)), [(True, None), (True, False), (None, False)])

    def test_one_column(self):
        writing = (1, 4, ((1,),), ((-1, 2),), ((3,), (-2,), (-1, 7)), ((-2, 4),))
        self.assertEqual(followed(writing, nothing(4, 1)), [(True, True, None, True)])
        self.assertIsNone(followed(writing, nothing(4, 2)))

    def test_all_but_one_is_needed(self):
        writing = (1, 4, (), ((-4, -3, 1, 2),), (), ())
        self.assertEqual(followed(writing, [(False, False, True, None)]), [(False, False, True, False)])
        self.assertEqual(followed(writing, [(False, None, True, True)]), [(False, True, True, True)])
        for column in [(False, None, True, None), (None, False, None, True), (True, None, True, True),
                       (False, True, None, True), (False, False, False, None), (None, None, None, None)]:
            self.assertEqual(followed(writing, [column]), [column])

    def test_all_told(self):
        self.assertEqual(followed(LADDER, [(False, False), (True, True), (False, True)]),
                         [(False, False), (True, True), (False, True)])
        self.assertIsNone(followed(LADDER, [(False, False), (True, True), (True, True)]))

    def test_no_clauses(self):
        for writing in (FREE, (2, 2, (), (), (), ())):
            for row in all_rows(2, 2) + [nothing(2, 300)]:
                self.assertEqual(leaves_alone(self, followed, writing, row), row)

    def test_against_going_through_all_clauses(self):
        for size, many, writings in ((1, 4, 40), (2, 3, 40), (3, 2, 10), (4, 1, 20)):
            for writing in made_writings(1, size, writings, seed=size):
                for row in all_rows(size, many):
                    self.assertEqual(followed(writing, row), slow_followed(writing, row), (writing, row))

    def test_hundreds_of_columns_against_going_through_all_clauses(self):
        for size in range(1, 5):
            for number, writing in enumerate(made_writings(1, size, 20, seed=20 + size, clauses=8)):
                columns = [column for row in all_rows(size, 1) for column in row]
                row = [columns[(7 * place) % len(columns)] if place % 40 == number else (None,) * size
                       for place in range(300)]
                self.assertEqual(followed(writing, row), slow_followed(writing, row), writing)

    def test_sixteen_clauses_a_part(self):
        for number, writing in enumerate(made_writings(2, 4, 20, seed=5, clauses=16)):
            row = nothing(4, 3)
            row[number % 3] = (True, None, None, False)
            self.assertEqual(followed(writing, row), slow_followed(writing, row))

    def test_what_it_leaves_stays(self):
        for row in all_rows(2, 2):
            left = followed(LADDER, row)
            if left is not None:
                self.assertEqual(followed(LADDER, left), left)

    def test_arguments_stay(self):
        for row in all_rows(2, 2) + [nothing(2, 300)]:
            leaves_alone(self, followed, LADDER, row)
            leaves_alone(self, followed, THERE_AND_BACK, row)

    def test_a_new_list_at_each_call(self):
        for writing in (LADDER, FREE, THERE_AND_BACK):
            for row in ([(None, None)], [(True, True), (False, True)], nothing(2, 300)):
                one, other = followed(writing, row), followed(writing, row)
                if one is None:
                    continue
                self.assertIsNot(one, row)
                self.assertIsNot(one, other)
                one.clear()
                self.assertEqual(other, followed(writing, row))
                self.assertGreater(len(row), 0)

    def test_kinds(self):
        left = followed(LADDER, [(None, None), (True, None)])
        self.assertIs(left.__class__, list)
        self.assertEqual([column.__class__ for column in left], [tuple, tuple])
        self.assertEqual(repr(left), '[(False, False), (True, True)]')

    def test_by_name(self):
        self.assertEqual(followed(row=[(True, None)], writing=LADDER), [(True, True)])

    def test_no_writing(self):
        for thing in strange_objects() + NO_WRITINGS:
            raises(self, InvalidWriting, followed, thing, [(None, None)])

    def test_no_row(self):
        for thing in strange_objects() + NO_ROWS:
            raises(self, InvalidRow, followed, LADDER, thing)
        raises(self, InvalidRow, followed, SINGLES, [(None, None)])

    def test_invalid_writing_comes_first(self):
        for thing in [None, [], [(1,)], 'a', [(None,)]]:
            raises(self, InvalidWriting, followed, None, thing)
            raises(self, InvalidWriting, followed, list(LADDER), thing)


class Seen(unittest.TestCase):

    def test_document(self):
        self.assertEqual(seen(LADDER, [(True,), (None,), (None,)]), [(True,), (False,), (False,)])
        self.assertIsNone(seen(LADDER, [(True,), (None,), (True,)]))

    def test_two_inputs(self):
        writing = (2, 3, ((3,),), ((-3, 1), (-2, -1)), ((-3, 6),), ())
        self.assertEqual(seen(writing, [(None, None), (None, None)]), [(True, False), (True, False)])
        self.assertEqual(seen(writing, [(True, None)]), [(True, False)])
        self.assertIsNone(seen(writing, [(None, None), (None, None), (None, True)]))

    def test_no_clauses(self):
        for setting in ([(None,)], [(True,), (None,), (False,)], nothing(1, 300)):
            self.assertEqual(leaves_alone(self, seen, FREE, setting), setting)

    def test_hundreds_of_columns(self):
        for place in (0, 1, 150, 299):
            setting = nothing(1, 300)
            setting[place] = (True,)
            self.assertEqual(seen(LADDER, setting), [(False,)] * place + [(True,)] + [(False,)] * (299 - place))
            setting[(place + 77) % 300] = (True,)
            self.assertIsNone(seen(LADDER, setting))
        self.assertEqual(seen(LADDER, nothing(1, 300)), nothing(1, 300))

    def test_against_going_through_all_clauses(self):
        for inputs, size, many in ((1, 1, 4), (1, 2, 4), (1, 3, 3), (2, 2, 2), (2, 3, 2), (2, 4, 2)):
            for writing in made_writings(inputs, size, 20, seed=30 + size):
                for setting in all_rows(inputs, many):
                    left = slow_followed(writing, [column + (None,) * (size - inputs) for column in setting])
                    expected = None if left is None else [column[:inputs] for column in left]
                    self.assertEqual(seen(writing, setting), expected, (writing, setting))

    def test_arguments_stay(self):
        for setting in all_rows(1, 3) + [nothing(1, 300)]:
            leaves_alone(self, seen, LADDER, setting)
            leaves_alone(self, seen, THERE_AND_BACK, setting)

    def test_a_new_list_at_each_call(self):
        for writing in (LADDER, FREE, (1, 1, (), (), (), ()), THERE_AND_BACK):
            for setting in ([(None,)], [(None,), (True,)], nothing(1, 300)):
                one, other = seen(writing, setting), seen(writing, setting)
                self.assertIsNot(one, setting)
                self.assertIsNot(one, other)
                one.clear()
                self.assertEqual(other, seen(writing, setting))
                self.assertGreater(len(setting), 0)

    def test_kinds(self):
        self.assertEqual(repr(seen(LADDER, [(None,), (True,)])), '[(False,), (True,)]')

    def test_by_name(self):
        self.assertEqual(seen(setting=[(None,), (True,)], writing=LADDER), [(False,), (True,)])

    def test_no_writing(self):
        for thing in strange_objects() + NO_WRITINGS:
            raises(self, InvalidWriting, seen, thing, [(None,)])

    def test_no_setting(self):
        for thing in strange_objects() + [(), ((None,),), [], [(None, None)], [(None,), (None, None)], [[None]],
                                          [(1,)], [(None,), (0,)]]:
            raises(self, InvalidSetting, seen, LADDER, thing)
        raises(self, InvalidSetting, seen, (2, 4, (), (), (), ()), [(None,)])
        raises(self, InvalidSetting, seen, (2, 4, (), (), (), ()), [(None, None, None, None)])

    def test_invalid_writing_comes_first(self):
        for thing in [None, [], [(1,)], 'a', [(None, None)]]:
            raises(self, InvalidWriting, seen, None, thing)
            raises(self, InvalidWriting, seen, list(LADDER), thing)


if __name__ == '__main__':
    unittest.main()
