"""Promise [13], and of [2] and [5] what it rests on: columns, rows, settings and words."""

import itertools
import unittest

from followrows.columns import all_columns, bare, inputs_of, is_less, is_row, is_setting, is_word
from followrows.errors import InvalidRow, InvalidSetting, InvalidWriting
from tests.anything import leaves_alone, raises, strange_objects, with_place

LADDER = (1, 2, (), ((-1, 2),), ((-2, 4), (-3, -2)), ())
PLAIN = (1, 1, (), (), (), ())
WIDE = (2, 4, ((-3, 1),), (), (), ((4,),))
PAIR = (2, 2, (), (), ((1, 4),), ())
NO_WRITINGS = [list(LADDER), (1, 2, [], (), (), ()), (True, 2, (), (), (), ()), (1, 5, (), (), (), ()), (1, 2)]
ENTRIES = (None, False, True)


def some_rows(size):
    """Return rows of so many signs: short ones with all kinds of columns, and a long one."""
    columns = list(itertools.product(ENTRIES, repeat=size))
    return [[columns[0]], [columns[-1]], columns[:3], columns, columns[::-1], (columns * 300)[:300]]


class AllColumns(unittest.TestCase):

    def test_one_sign(self):
        self.assertEqual(all_columns(1), [(None,), (False,), (True,)])

    def test_two_signs(self):
        self.assertEqual(all_columns(2), [
            (None, None), (None, False), (None, True),
            (False, None), (False, False), (False, True),
            (True, None), (True, False), (True, True),
        ])

    def test_one_to_four_signs(self):
        for size in range(1, 5):
            with self.subTest(size):
                columns = all_columns(size)
                self.assertEqual(columns, list(itertools.product(ENTRIES, repeat=size)))
                self.assertEqual(len(columns), 3 ** size)
                self.assertIs(columns.__class__, list)
                self.assertTrue(is_row(size, columns))

    def test_in_order(self):
        for size in (1, 2):
            columns = all_columns(size)
            for one, other in zip(columns, columns[1:]):
                self.assertTrue(is_less([one], [other]))

    def test_a_new_list_at_each_call(self):
        for size in range(1, 5):
            one = all_columns(size)
            self.assertIsNot(one, all_columns(size))
            one.clear()
            self.assertEqual(len(all_columns(size)), 3 ** size)

    def test_by_name(self):
        self.assertEqual(all_columns(size=2), all_columns(2))


class IsRow(unittest.TestCase):

    def test_right_ones(self):
        for size in range(1, 5):
            for row in some_rows(size):
                self.assertIs(leaves_alone(self, is_row, size, row), True)

    def test_a_wrong_entry(self):
        for entry in (0, 1, 2, -1, '', 'True', 'None', (), (None,), [], [True], {}):
            for size in range(1, 5):
                for many in (1, 2, 5):
                    for column, sign in itertools.product(range(many), range(size)):
                        row = [(None,) * size] * many
                        row[column] = with_place(row[column], sign, entry)
                        self.assertIs(is_row(size, row), False)

    def test_a_wrong_column(self):
        for column in ([None, True], [], None, True, 0, 'ab', {}, {0: None, 1: True}, ((None, True),)):
            for row in ([column], [column, (None, None)], [(None, None), column], [(None, None), column, (True, False)]):
                with self.subTest(row):
                    self.assertIs(is_row(2, row), False)

    def test_a_wrong_length_of_a_column(self):
        for size in range(1, 5):
            for length in range(7):
                if length != size:
                    row = [(None,) * size] * 3
                    for place in range(3):
                        self.assertIs(is_row(size, with_place(row, place, (None,) * length)), False)
                    self.assertIs(is_row(size, [(None,) * length]), False)
                    self.assertIs(is_row(size, [(True,) * length] * 2), False)

    def test_no_list(self):
        self.assertIs(is_row(1, ((None,),)), False)
        self.assertIs(is_row(1, (None,)), False)
        self.assertIs(is_row(2, ((None, True), (False, None))), False)
        self.assertIs(is_row(1, {0: (None,)}), False)
        self.assertIs(is_row(1, {(None,): 1}), False)
        self.assertIs(is_row(1, ()), False)

    def test_empty_list(self):
        for size in range(1, 5):
            self.assertIs(is_row(size, []), False)

    def test_zero_and_one_for_bools(self):
        for row in ([(0,)], [(1,)], [(True,), (1,)], [(0,), (False,)]):
            self.assertIs(is_row(1, row), False)

    def test_by_name(self):
        self.assertIs(is_row(thing=[(None, True)], size=2), True)


class IsSetting(unittest.TestCase):

    def test_right_ones(self):
        for inputs in (1, 2):
            for setting in some_rows(inputs):
                self.assertIs(leaves_alone(self, is_setting, inputs, setting), True)

    def test_wrong_ones(self):
        for setting in ([], (), ((None,),), [(None,), [None]], [(None,), (None, None)], [(None,), ()], [(None,), (0,)],
                        [(1,), (None,)], [None], [True], [(None,), None], {0: (None,)}, [('?',)]):
            with self.subTest(setting):
                self.assertIs(is_setting(1, setting), False)
        for setting in ([], ((None, None),), [(None, None), (None,)], [(None,)], [(None, None, None)], [(None, 1)],
                        [(0, None)], [[None, None]], [(True, False), [True, False]]):
            with self.subTest(setting):
                self.assertIs(is_setting(2, setting), False)

    def test_by_name(self):
        self.assertIs(is_setting(thing=[(None, True)], inputs=2), True)


class IsWord(unittest.TestCase):

    def test_right_ones(self):
        for word in ([(True,)], [(False,)], [(True,), (False,), (True,)], [(False,)] * 300):
            self.assertIs(leaves_alone(self, is_word, 1, word), True)
        for word in ([(True, False)], [(False, False), (True, True)], [(False, True)] * 300):
            self.assertIs(leaves_alone(self, is_word, 2, word), True)

    def test_one_entry_not_told(self):
        for inputs in (1, 2):
            for column, sign in itertools.product(range(4), range(inputs)):
                word = [(True,) * inputs] * 4
                self.assertIs(is_word(inputs, word), True)
                word[column] = with_place(word[column], sign, None)
                self.assertIs(is_word(inputs, word), False)

    def test_all_settings_of_two_columns(self):
        for setting in itertools.product(itertools.product(ENTRIES, repeat=2), repeat=2):
            told = None not in setting[0] + setting[1]
            self.assertIs(is_word(2, list(setting)), told)

    def test_wrong_ones(self):
        for word in ([], (), ((True,),), [(True,), [True]], [[True]], [(True, True)], [(True,), ()], [(1,)], [(0,)],
                     [(True,), (0,)], [True], [None], {0: (True,)}, [(True,), None], ['1']):
            with self.subTest(word):
                self.assertIs(is_word(1, word), False)
        self.assertIs(is_word(2, [(True,)]), False)
        self.assertIs(is_word(2, [(True, 1)]), False)
        self.assertIs(is_word(2, [(True, False), (True,)]), False)

    def test_by_name(self):
        self.assertIs(is_word(thing=[(False, True)], inputs=2), True)


class StrangeObjects(unittest.TestCase):

    def test_are_none_of_these(self):
        for function, most in ((is_row, 4), (is_setting, 2), (is_word, 2)):
            for size in range(1, most + 1):
                for thing in strange_objects():
                    self.assertIs(leaves_alone(self, function, size, thing), False)
                    self.assertIs(leaves_alone(self, function, size, [thing]), False)
                    self.assertIs(function(size, [(True,) * size, thing]), False)
                    if thing is not None and thing is not True and thing is not False:
                        self.assertIs(function(size, [(thing,) * size]), False)
                        self.assertIs(function(size, [(False,) * size, (True,) * (size - 1) + (thing,)]), False)


class Bare(unittest.TestCase):

    def test_ordinary(self):
        self.assertEqual(bare(LADDER, [(None,), (True,)]), [(None, None), (True, None)])
        self.assertEqual(bare(WIDE, [(None, False), (True, None)]), [(None, False, None, None), (True, None, None, None)])
        self.assertEqual(bare(LADDER, [(False,)]), [(False, None)])

    def test_no_helpers(self):
        self.assertEqual(bare(PLAIN, [(None,), (True,)]), [(None,), (True,)])
        self.assertEqual(bare(PAIR, [(None, True)]), [(None, True)])

    def test_hundreds_of_columns(self):
        setting = [(None,), (True,), (False,)] * 100
        self.assertEqual(bare(LADDER, setting), [(None, None), (True, None), (False, None)] * 100)

    def test_result_is_a_row(self):
        for writing in (LADDER, PLAIN, WIDE, PAIR):
            for setting in some_rows(writing[0]):
                row = leaves_alone(self, bare, writing, setting)
                self.assertTrue(is_row(writing[1], row))
                self.assertEqual(inputs_of(writing, row), setting)

    def test_a_new_list(self):
        for writing in (LADDER, PLAIN, PAIR):
            setting = [(None,) * writing[0], (True,) * writing[0]]
            row = bare(writing, setting)
            self.assertIsNot(row, setting)
            self.assertIsNot(row, bare(writing, setting))
            row.append('more')
            self.assertEqual(setting, [(None,) * writing[0], (True,) * writing[0]])

    def test_no_writing(self):
        for thing in strange_objects() + NO_WRITINGS:
            raises(self, InvalidWriting, bare, thing, [(None,)])

    def test_no_setting(self):
        for thing in strange_objects() + [(), ((None,),), [(None, None)], [(None,), (None, None)], [[None]], [(1,)],
                                          [(None,), (0,)]]:
            raises(self, InvalidSetting, bare, LADDER, thing)
        for thing in strange_objects() + [[(None,)], [(None, None, None, None)], [(None, None), (None,)]]:
            raises(self, InvalidSetting, bare, WIDE, thing)

    def test_invalid_writing_comes_first(self):
        for thing in [None, [], [(1,)], 'a']:
            raises(self, InvalidWriting, bare, None, thing)
            raises(self, InvalidWriting, bare, list(LADDER), thing)

    def test_by_name(self):
        self.assertEqual(bare(setting=[(True,)], writing=LADDER), [(True, None)])


class InputsOf(unittest.TestCase):

    def test_ordinary(self):
        self.assertEqual(inputs_of(LADDER, [(None, False), (True, None)]), [(None,), (True,)])
        self.assertEqual(inputs_of(WIDE, [(None, False, True, True), (True, None, None, False)]),
                         [(None, False), (True, None)])
        self.assertEqual(inputs_of(LADDER, [(False, True)]), [(False,)])

    def test_no_helpers(self):
        self.assertEqual(inputs_of(PLAIN, [(None,), (True,)]), [(None,), (True,)])
        self.assertEqual(inputs_of(PAIR, [(False, True)]), [(False, True)])

    def test_hundreds_of_columns(self):
        row = [(None, True), (True, None), (False, False)] * 100
        self.assertEqual(inputs_of(LADDER, row), [(None,), (True,), (False,)] * 100)

    def test_result_is_a_setting(self):
        for writing in (LADDER, PLAIN, WIDE, PAIR):
            for row in some_rows(writing[1]):
                self.assertTrue(is_setting(writing[0], leaves_alone(self, inputs_of, writing, row)))

    def test_a_new_list(self):
        for writing in (LADDER, PLAIN, PAIR):
            row = [(None,) * writing[1], (True,) * writing[1]]
            setting = inputs_of(writing, row)
            self.assertIsNot(setting, row)
            self.assertIsNot(setting, inputs_of(writing, row))
            setting.append('more')
            self.assertEqual(row, [(None,) * writing[1], (True,) * writing[1]])

    def test_no_writing(self):
        for thing in strange_objects() + NO_WRITINGS:
            raises(self, InvalidWriting, inputs_of, thing, [(None, None)])

    def test_no_row(self):
        for thing in strange_objects() + [(), ((None, None),), [(None,)], [(None, None), (None,)], [[None, None]],
                                          [(None, 1)], [(0, None)], [(None, None), (None, None, None)]]:
            raises(self, InvalidRow, inputs_of, LADDER, thing)

    def test_invalid_writing_comes_first(self):
        for thing in [None, [], [(1,)], 'a']:
            raises(self, InvalidWriting, inputs_of, None, thing)
            raises(self, InvalidWriting, inputs_of, list(LADDER), thing)

    def test_by_name(self):
        self.assertEqual(inputs_of(row=[(True, None)], writing=LADDER), [(True,)])


class IsLess(unittest.TestCase):

    def check_order(self, settings):
        """Fail unless settings stand in their order, each one less than all behind it."""
        for one, other in itertools.product(range(len(settings)), repeat=2):
            self.assertIs(leaves_alone(self, is_less, settings[one], settings[other]), one < other)

    def test_entries(self):
        self.check_order([[(None,)], [(False,)], [(True,)]])

    def test_columns(self):
        self.check_order([[column] for column in itertools.product(ENTRIES, repeat=2)])

    def test_fewer_columns(self):
        self.check_order([[(True,)], [(None,), (None,)], [(True,), (True,)], [(None,)] * 3, [(True,)] * 3, [(None,)] * 4])
        self.check_order([[(True, True)], [(None, None), (None, None)]])
        self.check_order([[(True,)] * 299, [(None,)] * 300])

    def test_settings_of_three_columns(self):
        self.check_order([[(one,), (two,), (three,)] for one, two, three in itertools.product(ENTRIES, repeat=3)])

    def test_equal_settings(self):
        for setting in ([(None,)], [(True,)], [(False, None)], [(None,), (True,), (False,)] * 100):
            self.assertIs(is_less(setting, list(setting)), False)
            self.assertIs(is_less(setting, setting), False)

    def test_unlike_in_one_place_of_hundreds(self):
        for place in (0, 1, 149, 298, 299):
            settings = [with_place([(None,), (True,), (False,)] * 100, place, (entry,)) for entry in ENTRIES]
            self.check_order(settings)
            settings = [with_place([(False, None), (True, True)] * 150, place, (True, entry)) for entry in ENTRIES]
            self.check_order(settings)

    def test_the_first_unlike_place_tells(self):
        self.check_order([[(None,), (True,), (True,)], [(False,), (None,), (None,)]])
        self.check_order([[(False,), (False,), (True,)], [(False,), (True,), (None,)]])
        self.check_order([[(None, True), (True, True)], [(False, None), (None, None)]])
        self.check_order([[(True, False), (True, True)], [(True, True), (None, None)]])
        self.check_order([[(False,)] * 150 + [(True,)] * 150, [(False,)] * 149 + [(True,)] + [(None,)] * 150])

    def test_by_name(self):
        self.assertIs(is_less(other=[(True,)], one=[(None,)]), True)
        self.assertIs(is_less(one=[(True,)], other=[(None,)]), False)


if __name__ == '__main__':
    unittest.main()
