"""Promises [10] and [18], and of [2] what belongs to them: settled rows and standings."""

import itertools
import unittest

from followrows.errors import (InvalidColumn, InvalidNumber, InvalidRow, InvalidStanding, InvalidWriting, TooMany)
from followrows.settled import behind, followers, is_end, is_settled, standing_of, standings, starts
from tests.anything import LONG, leaves_alone, raises, strange_objects, with_place
from tests.reference import LADDER, NO_WRITINGS, all_rows, made_writings
from tests.tables import (COUNTER, FREE, HUNDREDS, KNOWN, KNOWN_TWO, NEAR, NEVER, PARITY, columns, is_idle, place_of,
                          settled_beginnings, settings_up_to, slow_followers, slow_is_settled, slow_standing,
                          slow_starts, tells)

WIDE = (2, 4, (), (), (), ())
# More than a thousand standings.
THOUSANDS = (2, 4, ((3,), (-4, 2), (-4, -1, 3), (3, 4)), (),
             ((-6, -4, 5), (-5, 1, 8), (3, 6), (-7, -2, -1), (-8, 2, 5), (-8, -3, 4), (-2, 1, 8), (-4, 5, 7), (-7, 3, 6),
              (-7, -6, -4), (-8, -1, 3)), ())


def made(seed, most_rows=800):
    """Return the list of pairs of a writing and a number of columns of which not too many rows are there."""
    found = []
    for inputs, size, many in [(1, 1, 1), (1, 1, 4), (1, 2, 1), (1, 2, 3), (2, 2, 2), (1, 3, 1), (2, 3, 2), (2, 4, 1)]:
        if 3 ** (size * many) <= most_rows:
            found += [(writing, many) for writing in made_writings(inputs, size, 6, seed=seed + size, clauses=4)]
    return found


def no_columns(size):
    """Return objects that are no column of so many signs."""
    return [(None,) * (size - 1), (None,) * (size + 1), [None] * size, (1,) + (None,) * (size - 1),
            (None,) * (size - 1) + (0,), ('?',) * size, ((None,),) * size, [(None,) * size]]


def fold(writing, row):
    """Return the standing behind a beginning, column by column."""
    found = [column for column in slow_starts(writing) if tells([column], [row[0]])]
    for least in row[1:]:
        after = {column for ahead in found for column in slow_followers(writing, ahead)}
        found = sorted([column for column in after if tells([column], [least])], key=place_of)
    return found


def slow_standings(writing):
    """Return the list of all standings, going through settings until no longer one has a new standing."""
    inputs, size = writing[:2]
    found = []
    level = [[]]
    while level:
        longer = []
        for setting, letter in itertools.product(level, columns(inputs)):
            row = [column + (None,) * (size - inputs) for column in setting + [letter]]
            standing = fold(writing, row)
            if standing not in found:
                found.append(standing)
                longer.append(setting + [letter])
        level = longer
    return found


class IsSettled(unittest.TestCase):

    def test_document(self):
        self.assertIs(is_settled(LADDER, [(None, None), (True, True)]), False)
        self.assertIs(is_settled(LADDER, [(False, False), (True, True)]), True)

    def test_against_going_through_all_clauses(self):
        for writing, many in made(10) + [(writing, 2) for writing in KNOWN]:
            for row in all_rows(writing[1], many):
                expected = slow_is_settled(writing, row)
                self.assertIs(leaves_alone(self, is_settled, writing, row), expected, (writing, row))

    def test_each_part_where_it_is_there(self):
        # A clause of one literal is settled just if it is true.
        nothing = [(None,)] * 4
        for place in range(4):
            row = with_place(nothing, place, (True,))
            self.assertIs(is_settled((1, 1, ((1,),), (), (), ()), row), place == 0)
            self.assertIs(is_settled((1, 1, (), (), (), ((1,),)), row), place == 3)
            self.assertIs(is_settled((1, 1, (), ((1,),), (), ()), row), False)
            self.assertIs(is_settled((1, 1, (), (), ((1,),), ()), with_place([(True,)] * 4, place, (None,))), place == 3)
            self.assertIs(is_settled((1, 1, (), (), ((2,),), ()), with_place([(True,)] * 4, place, (None,))), place == 0)
        self.assertIs(is_settled((1, 1, (), ((1,),), (), ()), [(True,)] * 4), True)
        self.assertIs(is_settled((1, 1, (), (), ((1,), (2,)), ()), nothing[:1]), True)

    def test_true_or_two_not_told(self):
        for many in (1, 2, 3, 4):
            for clause in itertools.product((-1, 1), repeat=many):
                clause = tuple(sorted(sign * value for sign, value in zip(range(1, 5), clause)))
                for column in columns(4):
                    expected = is_idle(clause, column)
                    self.assertIs(is_settled((2, 4, (), (clause,), (), ()), [column]), expected)

    def test_hundreds_of_columns(self):
        row = [(False, False)] * 150 + [(True, True)] + [(False, True)] * 149
        self.assertIs(is_settled(LADDER, row), True)
        self.assertIs(is_settled(LADDER, [(None, None)] * 300), True)
        for place in (0, 1, 149, 150, 151, 299):
            self.assertIs(is_settled(LADDER, with_place(row, place, (True, None))), False)
        self.assertIs(is_settled(LADDER, with_place(row, 299, (True, True))), False)
        self.assertIs(is_settled(LADDER, with_place(row, 0, (None, False))), False)

    def test_by_name(self):
        self.assertIs(is_settled(row=[(None, None)], writing=LADDER), True)


class Starts(unittest.TestCase):

    def test_document(self):
        self.assertEqual(starts(LADDER), [(None, None), (None, True), (False, None), (False, False), (False, True),
                                          (True, True)])

    def test_against_all_beginnings(self):
        for writing, many in made(20):
            expected = {row[0] for row in settled_beginnings(writing, 1)}
            self.assertEqual(leaves_alone(self, starts, writing), sorted(expected, key=place_of), writing)
            longer = {row[0] for row in settled_beginnings(writing, many)}
            self.assertLessEqual(longer, expected)

    def test_the_last_part_does_not_matter(self):
        self.assertEqual(starts((1, 1, (), (), (), ((1,),))), [(None,), (False,), (True,)])
        self.assertEqual(starts((1, 1, ((1,),), (), (), ())), [(True,)])
        self.assertEqual(starts((1, 1, (), ((-1,),), (), ())), [(False,)])
        self.assertEqual(starts((1, 1, ((1,),), ((-1,),), (), ())), [])
        self.assertEqual(starts((1, 1, (), (), ((1,),), ())), [(None,), (False,), (True,)])

    def test_ascending(self):
        self.assertEqual(starts(WIDE), columns(4))
        self.assertEqual(len(starts(WIDE)), 81)

    def test_by_name(self):
        self.assertEqual(starts(writing=NEVER), [])


class Followers(unittest.TestCase):

    def test_document(self):
        self.assertEqual([followers(LADDER, (True, True)), followers(LADDER, (None, None))],
                         [[(False, True)], [(None, None), (None, True), (False, None), (False, True)]])

    def test_against_going_through_all_columns(self):
        for writing, _ in made(30):
            each_and_nexts = (writing[0], writing[1], (), (), writing[4], ())
            for column in columns(writing[1]):
                expected = [after for after in columns(writing[1]) if slow_is_settled(each_and_nexts, [column, after])
                            and all(is_idle(clause, after) for clause in writing[3])]
                self.assertEqual(leaves_alone(self, followers, writing, column), expected, (writing, column))

    def test_columns_that_are_not_settled_themselves(self):
        self.assertEqual(followers((1, 1, (), ((1,),), (), ()), (False,)), [(True,)])
        self.assertEqual(followers((1, 1, ((1,),), (), ((-1, 2),), ((1,),)), (False,)), [(None,), (False,), (True,)])
        self.assertEqual(followers((1, 1, (), (), ((1,),), ()), (None,)), [])

    def test_by_name(self):
        self.assertEqual(followers(column=(None,), writing=FREE), [(None,), (False,), (True,)])


class IsEnd(unittest.TestCase):

    def test_document(self):
        self.assertIs(is_end(LADDER, (None, None)), True)

    def test_against_going_through_all_columns(self):
        for writing, _ in made(40):
            for column in columns(writing[1]):
                expected = slow_is_settled((writing[0], writing[1], (), (), (), writing[5]), [column])
                self.assertIs(leaves_alone(self, is_end, writing, column), expected)

    def test_only_the_last_part_matters(self):
        for column in columns(1):
            self.assertIs(is_end((1, 1, ((1,),), ((-1,),), ((1,),), ()), column), True)
            self.assertIs(is_end((1, 1, (), (), (), ((1,),)), column), column == (True,))

    def test_by_name(self):
        self.assertIs(is_end(column=(None,), writing=FREE), True)


class StandingOf(unittest.TestCase):

    def test_document(self):
        self.assertEqual(standing_of(LADDER, [(None, None), (True, None)]), [(True, True)])

    def test_against_all_settled_beginnings(self):
        for writing, many in made(50, 300):
            beginnings = settled_beginnings(writing, many)
            for row in all_rows(writing[1], many):
                expected = slow_standing(writing, row, beginnings)
                self.assertEqual(leaves_alone(self, standing_of, writing, row), expected, (writing, row))

    def test_longer_beginnings(self):
        for writing in [COUNTER, (2, 3, ((-1, 3),), ((-2, -1),), ((-6, 3), (-4, -3)), ((3,),))]:
            beginnings = settled_beginnings(writing, 2)
            for row in all_rows(3, 2):
                self.assertEqual(standing_of(writing, row), slow_standing(writing, row, beginnings))
        for writing, many in [(LADDER, 4), (NEAR, 6), (PARITY, 4)]:
            beginnings = settled_beginnings(writing, many)
            for setting in all_rows(1, many):
                row = [column + (None,) * (writing[1] - 1) for column in setting]
                self.assertEqual(standing_of(writing, row), slow_standing(writing, row, beginnings))

    def test_hundreds_of_columns(self):
        for place in (0, 1, 150, 298, 299):
            row = with_place([(None, None)] * 300, place, (True, None))
            expected = [(True, True)] if place == 299 else [(False, True)]
            self.assertEqual(leaves_alone(self, standing_of, LADDER, row), expected)
            self.assertEqual(standing_of(LADDER, with_place(row, 200, (None, False))), [] if place < 200 else expected)
        self.assertEqual(standing_of(WIDE, [(None,) * 4] * 300), columns(4))
        self.assertEqual(standing_of(NEVER, [(None,)] * 300), [])

    def test_hundreds_of_columns_one_by_one(self):
        for seed, (inputs, size) in enumerate([(1, 2), (2, 3), (1, 3)]):
            for writing in made_writings(inputs, size, 4, seed=60 + seed):
                letters = columns(size)
                row = [letters[k * k % len(letters)] if k % 7 == 0 else letters[0] for k in range(300)]
                self.assertEqual(standing_of(writing, row), fold(writing, row))

    def test_the_last_part_does_not_matter(self):
        self.assertEqual(standing_of((1, 1, (), (), (), ((1,),)), [(None,)]), columns(1))

    def test_by_name(self):
        self.assertEqual(standing_of(row=[(True,)], writing=FREE), [(True,)])


class Behind(unittest.TestCase):

    def test_document(self):
        row = [(None, None), (True, None)]
        self.assertEqual(standing_of(LADDER, row), behind(LADDER, starts(LADDER), (True, None)))

    def test_against_standings_of_one_column_more(self):
        for writing, many in made(70, 100):
            rows = all_rows(writing[1], many)
            # Going through a few of the rows and columns will do where there are many of them.
            for row in rows[::1 + len(rows) // 30]:
                standing = standing_of(writing, row)
                for column in columns(writing[1])[::1 + len(rows) // 30]:
                    expected = fold(writing, row + [column])
                    self.assertEqual(leaves_alone(self, behind, writing, standing, column), expected)

    def test_any_standings(self):
        for writing in [LADDER] + made_writings(1, 2, 4, seed=80):
            for chosen in itertools.product((False, True), repeat=9):
                standing = [column for column, takes in zip(columns(2), chosen) if takes]
                for column in [(None, None), (False, None), (True, True)]:
                    after = {other for ahead in standing for other in slow_followers(writing, ahead)}
                    expected = [other for other in columns(2) if other in after and tells([other], [column])]
                    self.assertEqual(behind(writing, standing, column), expected)

    def test_the_empty_standing(self):
        for writing in KNOWN + KNOWN_TWO:
            for column in columns(writing[1]):
                self.assertEqual(leaves_alone(self, behind, writing, [], column), [])

    def test_by_name(self):
        self.assertEqual(behind(column=(None,), standing=[(True,)], writing=NEAR), [(False,)])


class Standings(unittest.TestCase):

    def test_document(self):
        self.assertEqual(standings(LADDER, 10)[2:], [[(True, True)], [(False, True)], []])

    def test_against_going_through_settings(self):
        found = [writing for writing, _ in made(90)] + KNOWN + KNOWN_TWO
        for writing in found:
            expected = slow_standings(writing)
            self.assertEqual(leaves_alone(self, standings, writing, 1000), expected, writing)

    def test_in_the_order_of_the_least_settings(self):
        for writing in [PARITY, COUNTER, LADDER] + KNOWN_TWO:
            inputs, size = writing[:2]
            found = []
            for setting in settings_up_to(inputs, 6 if inputs == 1 else 3):
                standing = standing_of(writing, [column + (None,) * (size - inputs) for column in setting])
                if standing not in found:
                    found.append(standing)
            self.assertEqual(standings(writing, 100), found)

    def test_the_limit(self):
        for writing in [writing for writing, _ in made(100)] + KNOWN + KNOWN_TWO:
            many = len(standings(writing, 1000))
            for limit in (many, many + 1, 999):
                self.assertEqual(len(standings(writing, limit)), many)
            for limit in range(1, many):
                raises(self, TooMany, standings, writing, limit)

    def test_hundreds_and_thousands(self):
        self.assertEqual(len(standings(HUNDREDS, 526)), 526)
        self.assertEqual(standings(HUNDREDS, 526), slow_standings(HUNDREDS))
        raises(self, TooMany, standings, HUNDREDS, 525)
        raises(self, TooMany, standings, HUNDREDS, 1)
        raises(self, TooMany, standings, THOUSANDS, 1000)

    def test_the_empty_standing(self):
        self.assertEqual(standings(NEVER, 1), [[]])
        self.assertEqual(standings(NEAR, 10), [columns(1), [(False,)], [(True,)], []])
        self.assertEqual(standings(FREE, 3), [columns(1), [(False,)], [(True,)]])

    def test_by_name(self):
        self.assertEqual(standings(limit=1, writing=NEVER), [[]])


class NewLists(unittest.TestCase):

    def test_a_new_list_at_each_call(self):
        calls = [(starts, (LADDER,)), (followers, (LADDER, (None, None))), (standing_of, (LADDER, [(None, None)])),
                 (behind, (LADDER, [(None, None), (True, True)], (None, None))), (standings, (LADDER, 5)),
                 (behind, (FREE, columns(1), (None,))), (behind, (FREE, [], (None,))), (standings, (NEVER, 5))]
        for function, arguments in calls:
            one, other = function(*arguments), function(*arguments)
            self.assertIsNot(one, other)
            self.assertFalse(any(one is argument for argument in arguments))
            one.append('more')
            self.assertEqual(function(*arguments), other)

    def test_a_new_list_within_another_one(self):
        one, other = standings(PARITY, 50), standings(PARITY, 50)
        lists = [one, other] + one + other
        self.assertEqual(len({id(thing) for thing in lists}), len(lists))
        for standing in one:
            standing.append('more')
        self.assertEqual(standings(PARITY, 50), other)


class Errors(unittest.TestCase):

    def test_no_writing(self):
        for thing in strange_objects() + NO_WRITINGS:
            raises(self, InvalidWriting, is_settled, thing, [(None,)])
            raises(self, InvalidWriting, starts, thing)
            raises(self, InvalidWriting, followers, thing, (None,))
            raises(self, InvalidWriting, is_end, thing, (None,))
            raises(self, InvalidWriting, standing_of, thing, [(None,)])
            raises(self, InvalidWriting, behind, thing, [(None,)], (None,))
            raises(self, InvalidWriting, standings, thing, 10)

    def test_no_row(self):
        for function in (is_settled, standing_of):
            for thing in strange_objects() + [[(None,)], [(None, None), (None,)], ((None, None),), [[None, None]],
                                              [(None, None), (1, None)], [(None, None)] * 299 + [(None, 0)]]:
                raises(self, InvalidRow, function, LADDER, thing)

    def test_no_column(self):
        for size in (1, 2, 4):
            writing = (1, size, (), (), (), ())
            for thing in strange_objects() + no_columns(size):
                raises(self, InvalidColumn, followers, writing, thing)
                raises(self, InvalidColumn, is_end, writing, thing)
                raises(self, InvalidColumn, behind, writing, [], thing)
                raises(self, InvalidColumn, behind, writing, [(None,) * size], thing)

    def test_no_standing(self):
        good = [(None, None), (None, True), (False, None), (True, True)]
        wrong = [tuple(good), good[::-1], [good[1], good[0]], good + good[-1:], good[:1] * 2, [list(good[0])],
                 good[:1] + [list(good[1])], good[:2] + [None] + good[2:], [(None,)], [(None, None, None)],
                 [(None, 1)], [(None, None), (1, None)], [0], {good[0]: good[1]}, good[0], [good], [[]],
                 [(None, None), (None, False), (None, True), (None, False)], [(True, True), (None, None)],
                 [(False, None), (None, True)], [(True, None), (False, True)], [(False, False), (False, None)]]
        for thing in wrong + [thing for thing in strange_objects() if thing != []]:
            raises(self, InvalidStanding, behind, LADDER, thing, (None, None))

    def test_invalid_standing_comes_before_invalid_column(self):
        for standing, column in itertools.product([(), [(True, True), (None, None)], None, [(None,)]], no_columns(2)):
            raises(self, InvalidStanding, behind, LADDER, standing, column)

    def test_no_number(self):
        things = [0, -1, 1001, 1002, 10 ** 20, LONG, -LONG, True, False, None, '1', '', [1], (1,), {}, {1: 1}, []]
        for thing in things + [thing for thing in strange_objects() if thing not in (5, 17)]:
            for writing in (LADDER, NEVER, THOUSANDS):
                raises(self, InvalidNumber, standings, writing, thing)

    def test_invalid_writing_comes_first(self):
        for thing in [None, list(LADDER)]:
            for function, more in [(is_settled, [None]), (standing_of, [[]]), (followers, [()]), (is_end, [()]),
                                   (standings, [0]), (behind, [(), ()]), (behind, [[], ()])]:
                raises(self, InvalidWriting, function, thing, *more)


if __name__ == '__main__':
    unittest.main()
