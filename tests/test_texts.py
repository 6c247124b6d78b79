"""Promise [30], and of [2] what belongs to it: texts."""

import itertools
import random
import unittest

from followrows.errors import ParseError
from followrows.texts import (format_setting, format_wish, format_writing, parse_setting, parse_wish, parse_writing)
from tests.anything import LONG, leaves_alone, strange_objects
from tests.reference import LADDER, all_clauses, all_rows, made_wishes, made_writings
from tests.tables import COUNTER, EVERY, FREE, KNOWN, KNOWN_TWO, SPLIT, WISH_ONE, WISH_TURNS, WISHES, WISHES_TWO

SHAPES = [(1, 1), (1, 2), (1, 3), (1, 4), (2, 2), (2, 3), (2, 4)]
WRITINGS = [writing for inputs, size in SHAPES for writing in made_writings(inputs, size, 15, seed=size, clauses=6)]
WRITINGS += KNOWN + KNOWN_TWO + [LADDER, SPLIT, (2, 4, (), (), (), ())]
SOME_WISHES = WISHES + WISHES_TWO + [wish for inputs in (1, 2) for states in range(1, 13)
                                     for wish in made_wishes(inputs, states, 4, seed=states)]
LADDER_LINES = ['inputs 1 size 2', 'each -1 2', 'nexts -2 4', 'nexts -3 -2']
ONE_LINES = ['inputs 1', 'good 0 1', 'good 1 2', 'bad 2 2']
# Words that are not how any integer from 0 on is written.
NO_NUMBERS = ['', '00', '01', '-0', '-1', '+1', '1.0', '1_0', '0x1', 'a', '1a', '--1', '-', '+', '1\t', '\t1', '\u0661', '\u00b2',
              '\uff11', '1e0', "'1'", 'None', 'True', '01' * 3000]


def full_parts(inputs, size):
    """Return a writing with sixteen clauses in each part, or as many as there are."""
    parts = [tuple(all_clauses(signs, 4)[::-1][:16]) for signs in (size, size, 2 * size, size)]
    return (inputs, size, *parts)


def text_of(lines):
    """Return the text of some lines."""
    return '\n'.join(lines)


class Texts(unittest.TestCase):

    def stops(self, line, function, *arguments):
        """Fail unless a call raises a ParseError with a line."""
        with self.assertRaises(ParseError, msg=arguments) as caught:
            leaves_alone(self, function, *arguments)
        self.assertIs(caught.exception.__class__, ParseError)
        self.assertEqual([caught.exception.line, caught.exception.line.__class__], [line, int], arguments)


class Writing(Texts):

    def test_document(self):
        self.assertEqual(format_writing(LADDER).split('\n'), LADDER_LINES)
        self.assertEqual(parse_writing(format_writing(SPLIT)), SPLIT)

    def test_there_and_back(self):
        for writing in WRITINGS + [full_parts(*shape) for shape in SHAPES]:
            text = leaves_alone(self, format_writing, writing)
            self.assertEqual(parse_writing(text), writing)
            self.assertEqual(format_writing(parse_writing(text)), text)
            self.assertNotRegex(text, r'\n\Z|\A\n|  | \n|\n |\n\n')

    def test_lines(self):
        writing = (2, 3, ((1,), (-3, -2, 1)), ((3,),), ((-6, -5, 1, 4), (-1, 2)), ((-3,), (3,)))
        self.assertEqual(format_writing(writing).split('\n'), [
            'inputs 2 size 3', 'first 1', 'first -3 -2 1', 'each 3', 'nexts -6 -5 1 4', 'nexts -1 2', 'last -3', 'last 3'])
        self.assertEqual(format_writing(FREE), 'inputs 1 size 1')
        self.assertEqual(parse_writing('inputs 1 size 1'), FREE)
        self.assertEqual(parse_writing(text_of(LADDER_LINES)), LADDER)

    def test_no_string(self):
        for thing in strange_objects() + [LADDER, LADDER_LINES, b'inputs 1 size 1', tuple(LADDER_LINES)]:
            if thing.__class__ is not str:
                self.stops(0, parse_writing, thing)

    def test_first_line(self):
        for line in ['', ' ', 'inputs', 'inputs 1', 'inputs 1 size', 'size 1', 'inputs 1 size 1 ', ' inputs 1 size 1',
                     'inputs  1 size 1', 'inputs 1 size 1 1', 'inputs 1 Size 1', 'input 1 size 1', 'each 1', 'inputs\t1 size 1',
                     'inputs 0 size 1', 'inputs 3 size 3', 'inputs 3 size 4', 'inputs 1 size 5', 'inputs 1 size 0',
                     'inputs 2 size 1', 'inputs 1 size 10', 'inputs 10 size 1', 'inputs 1,size 1', 'inputs 1 size 1\t',
                     'inputs 1 size ' + '1' * 6000, 'inputs ' + '1' * 6000 + ' size 1', 'size 2 inputs 1', 'wish', 'ladder']:
            for more in ([], ['each 1'], ['nothing'], ['']):
                self.stops(0, parse_writing, text_of([line] + more))
        for word in NO_NUMBERS:
            self.stops(0, parse_writing, 'inputs ' + word + ' size 1')
            self.stops(0, parse_writing, 'inputs 1 size ' + word)
        for inputs, size in SHAPES:
            self.assertEqual(parse_writing('inputs ' + str(inputs) + ' size ' + str(size))[:2], (inputs, size))

    def test_lines_that_are_none(self):
        for line in ['', ' ', 'each', 'each ', 'each  1', 'each 1 ', ' each 1', 'each 1  2', 'Each 1', 'next 1', 'all 1', '1', '-1 2',
                     'each1', 'each 1,2', 'each (1)', 'each\t1', 'each 1\t2', 'inputs 1 size 2', 'good 0 1', 'last', 'first',
                     'nexts', 'first first 1', 'each each', 'each 1 each 2', 'first 1 2 ']:
            for number in (1, 2, 4):
                self.stops(number, parse_writing, text_of(LADDER_LINES[:number] + [line]))
                self.stops(number, parse_writing, text_of(LADDER_LINES[:number] + [line, 'each 2', 'nothing']))

    def test_line_feed_at_the_end(self):
        for many in range(1, 5):
            self.stops(many, parse_writing, text_of(LADDER_LINES[:many]) + '\n')
            self.stops(many, parse_writing, text_of(LADDER_LINES[:many]) + '\n\n')
        self.stops(0, parse_writing, '\n' + text_of(LADDER_LINES))
        self.stops(2, parse_writing, text_of(LADDER_LINES[:2] + [''] + LADDER_LINES[2:]))

    def test_numbers_that_are_none(self):
        for word in NO_NUMBERS + ['0', '5', '9', '10', '12', '9' * 40, '9' * 6000, '-9', '-5', '-' + '9' * 40, '-01', '- 1', '-a']:
            if word == '-1':
                continue
            self.stops(1, parse_writing, 'inputs 1 size 4\neach ' + word)
            self.stops(2, parse_writing, 'inputs 1 size 4\neach 1\nlast -4 ' + word)
            self.stops(1, parse_writing, 'inputs 1 size 2\nnexts ' + word + ' 4\nnothing')

    def test_clauses_of_so_many_signs(self):
        for inputs, size in SHAPES:
            heading = 'inputs ' + str(inputs) + ' size ' + str(size)
            for name in ('first', 'each', 'nexts', 'last'):
                signs = 2 * size if name == 'nexts' else size
                for sign in range(1, 10):
                    for word in (str(sign), '-' + str(sign)):
                        text = text_of([heading, name + ' ' + word])
                        if sign <= signs:
                            place = 2 + ('first', 'each', 'nexts', 'last').index(name)
                            self.assertEqual(parse_writing(text)[place], ((int(word),),))
                        else:
                            self.stops(1, parse_writing, text)
        for words in ['2 1', '1 -2', '1 1', '-1 1', '-1 -2', '1 2 3 4 -4', '-1 2 3 4 5', '-4 -3 -2 -1 1', '-1 2 -3']:
            self.stops(1, parse_writing, 'inputs 1 size 4\neach ' + words)
        self.assertEqual(parse_writing('inputs 1 size 4\neach -4 -2 1 3')[3], ((-4, -2, 1, 3),))

    def test_clauses_twice(self):
        for name in ('first', 'each', 'nexts', 'last'):
            line = name + ' -2 1'
            self.stops(2, parse_writing, text_of(['inputs 1 size 2', line, line]))
            self.stops(4, parse_writing, text_of(['inputs 1 size 2', line, name + ' 1', name + ' 2', line, line]))
        # In another part the same clause may stand.
        self.assertEqual(parse_writing('inputs 1 size 2\nfirst 1\neach 1\nnexts 1\nlast 1')[2:], (((1,),),) * 4)

    def test_seventeen_clauses(self):
        for place, name in enumerate(('first', 'each', 'nexts', 'last')):
            clauses = all_clauses(4, 3)[:17]
            lines = [name + ' ' + ' '.join(map(str, clause)) for clause in clauses]
            ahead = ['inputs 1 size 4'] + ['first -4'] * (place > 0) + ['each -4'] * (place > 1)
            self.assertEqual(len(parse_writing(text_of(ahead + lines[:16]))[2 + place]), 16)
            self.stops(len(ahead) + 16, parse_writing, text_of(ahead + lines))
            self.stops(len(ahead) + 16, parse_writing, text_of(ahead + lines[:16] + lines[:1]))
            self.stops(len(ahead) + 16, parse_writing, text_of(ahead + lines + lines))

    def test_parts_out_of_their_order(self):
        names = ('first', 'each', 'nexts', 'last')
        for many in (2, 3, 4):
            for order in itertools.product(range(4), repeat=many):
                lines = ['inputs 1 size 4'] + [names[part] + ' ' + str(place + 1) for place, part in enumerate(order)]
                wrong = [place + 1 for place in range(many) if order[place] < max(order[:place + 1])]
                if wrong:
                    self.stops(wrong[0], parse_writing, text_of(lines))
                else:
                    self.assertEqual(format_writing(parse_writing(text_of(lines))), text_of(lines))

    def test_several_faults(self):
        self.stops(1, parse_writing, 'inputs 1 size 1\nlast 2\nlast 1\neach 1\n')
        self.stops(2, parse_writing, 'inputs 1 size 1\nlast 1\neach 1\nlast 1\nnothing')
        self.stops(2, parse_writing, 'inputs 1 size 1\nlast 1\nlast 1\neach 1')
        self.stops(0, parse_writing, 'inputs 1 size 9\nlast 1\nlast 1\neach 1')
        self.stops(3, parse_writing, 'inputs 1 size 1\nfirst 1\nlast -1\nnexts 1\nlast 5')

    def test_one_fault_among_good_lines(self):
        picks = random.Random(1)
        for writing in WRITINGS:
            lines = format_writing(writing).split('\n')
            for _ in range(6):
                place = picks.randrange(len(lines) + 1)
                self.stops(place, parse_writing, text_of(lines[:place] + ['each 9'] + lines[place:]))

    def test_by_name(self):
        self.assertEqual(parse_writing(text=format_writing(writing=COUNTER)), COUNTER)


class Wish(Texts):

    def test_document(self):
        self.assertEqual(format_wish(WISH_ONE).split('\n'), ONE_LINES)
        self.stops(2, parse_wish, 'inputs 1\ngood 0 3')

    def test_there_and_back(self):
        for wish in SOME_WISHES:
            text = leaves_alone(self, format_wish, wish)
            self.assertEqual(parse_wish(text), wish)
            self.assertEqual(format_wish(parse_wish(text)), text)
            self.assertNotRegex(text, r'\n\Z|\A\n|  | \n|\n |\n\n')

    def test_lines(self):
        self.assertEqual(format_wish(WISH_TURNS).split('\n'), ['inputs 2', 'good 3 1 2 3', 'good 3 3 2 3', 'good 3 1 3 3',
                                                               'bad 3 3 3 3'])
        self.assertEqual(format_wish(EVERY), 'inputs 1\ngood 0 0')
        steps = ((10, 11),) + ((0, 0),) * 11
        self.assertEqual(format_wish((1, steps, (False,) * 12)), text_of(['inputs 1', 'bad 10 11'] + ['bad 0 0'] * 11))

    def test_no_string(self):
        for thing in strange_objects() + [WISH_ONE, ONE_LINES, b'inputs 1']:
            if thing.__class__ is not str:
                self.stops(0, parse_wish, thing)

    def test_first_line(self):
        for line in ['', ' ', 'inputs', 'inputs ', 'inputs  1', ' inputs 1', 'inputs 1 ', 'inputs 0', 'inputs 3', 'inputs 11',
                     'inputs 1 1', 'inputs 1 size 1', 'Inputs 1', 'good 0 0', 'inputs\t1', 'inputs 1\t', 'inputs ' + '1' * 6000]:
            for more in ([], ['good 0 0'], ['nothing'], ['']):
                self.stops(0, parse_wish, text_of([line] + more))
        for word in NO_NUMBERS:
            self.stops(0, parse_wish, 'inputs ' + word + '\ngood 0 0')

    def test_lines_that_are_none(self):
        for line in ['', ' ', 'good', 'bad', 'good ', 'good 0', 'good 0 0 0', 'good 0 0 0 0', 'good  0 0', 'good 0  0', 'good 0 0 ',
                     ' good 0 0', 'Good 0 0', 'ugly 0 0', '0 0', 'good0 0', 'good 0,0', 'good\t0 0', 'good 0 0\t', 'inputs 1',
                     'good bad 0', 'True 0 0', '1 0 0', 'good 0 good']:
            for number in (1, 2, 4):
                self.stops(number, parse_wish, text_of(ONE_LINES[:number] + [line]))
                self.stops(number, parse_wish, text_of(ONE_LINES[:number] + [line, 'good 9 9', 'nothing']))
        for line in ['good 0', 'good 0 0', 'good 0 0 0', 'good 0 0 0 0 0', 'bad 0 0 0  0']:
            self.stops(1, parse_wish, 'inputs 2\n' + line)

    def test_line_feed_at_the_end(self):
        for many in range(1, 5):
            self.stops(many, parse_wish, text_of(ONE_LINES[:many]) + '\n')

    def test_numbers_that_are_none(self):
        for word in NO_NUMBERS + ['-2', '-' + '9' * 6000, '- 1', '-01', '0' * 6000, '+0']:
            self.stops(1, parse_wish, 'inputs 1\ngood 0 ' + word)
            self.stops(1, parse_wish, 'inputs 1\ngood ' + word + ' 0\nnothing')
            self.stops(2, parse_wish, 'inputs 1\nbad 0 0\ngood 0 ' + word + '\ngood 0 0')
            self.stops(1, parse_wish, 'inputs 2\nbad 0 0 ' + word + ' 0')

    def test_states_that_are_not_there(self):
        for number in ['1', '2', '9', '10', '11', '12', '13', '99', '100', '1' * 9, str(LONG), '9' * 4300, '1' * 4301, '9' * 20000]:
            self.stops(2, parse_wish, 'inputs 1\ngood 0 ' + number)
            self.stops(2, parse_wish, 'inputs 2\ngood 0 ' + number + ' 0 0')
            lines = ['inputs 1'] + ['good ' + number + ' 0'] + ['bad 0 0'] * 11
            if len(number) > 2 or int(number) > 11:
                self.stops(13, parse_wish, text_of(lines))
            else:
                self.assertEqual(parse_wish(text_of(lines))[1][0], (int(number), 0))
        for many in range(1, 13):
            lines = ['inputs 1'] + ['bad 0 0'] * (many - 1)
            self.assertEqual(parse_wish(text_of(lines + ['good 0 ' + str(many - 1)]))[1][-1], (0, many - 1))
            self.stops(many + 1, parse_wish, text_of(lines + ['good 0 ' + str(many)]))

    def test_no_states(self):
        self.stops(1, parse_wish, 'inputs 1')
        self.stops(1, parse_wish, 'inputs 2')

    def test_thirteenth_state(self):
        lines = ['inputs 1'] + ['good 0 0'] * 12
        self.assertEqual(len(parse_wish(text_of(lines))[1]), 12)
        self.stops(13, parse_wish, text_of(lines + ['good 0 0']))
        self.stops(13, parse_wish, text_of(lines + ['good 0 12']))
        self.stops(13, parse_wish, text_of(lines + ['good 0 0'] * 3))
        self.stops(13, parse_wish, text_of(lines + ['']))

    def test_several_faults(self):
        # A state that is not there is only told once all lines can stand.
        self.stops(3, parse_wish, 'inputs 1\ngood 0 7\nbad 1 1\nnothing')
        self.stops(2, parse_wish, 'inputs 1\ngood 0 7\nbad 1\nnothing')
        self.stops(3, parse_wish, 'inputs 1\ngood 0 7\nbad 1 8')
        self.stops(0, parse_wish, 'inputs 3\ngood 0 7\nbad 1')
        self.stops(1, parse_wish, 'inputs 1\ngood 0 -7\nbad 1 1\nnothing')

    def test_by_name(self):
        self.assertEqual(parse_wish(text=format_wish(wish=WISH_TURNS)), WISH_TURNS)


class Setting(Texts):

    def test_document(self):
        self.assertEqual([parse_setting(2, '1? 00'), format_setting([(None,), (True,)])],
                         [[(True, None), (False, False)], '? 1'])

    def test_there_and_back(self):
        for inputs, most in ((1, 4), (2, 2)):
            for many in range(1, most + 1):
                for setting in all_rows(inputs, many):
                    text = leaves_alone(self, format_setting, setting)
                    self.assertEqual(len(text), (inputs + 1) * many - 1)
                    self.assertEqual(parse_setting(inputs, text), setting)
        long = [(None,), (True,), (False,)] * 100
        self.assertEqual(parse_setting(1, format_setting(long)), long)
        self.assertEqual(format_setting(long), ' '.join(['? 1 0'] * 100))

    def test_no_setting(self):
        texts = ['', ' ', '2', '-1', '1 ', ' 1', '1  1', '1\n1', '1\n', '\n', '1\t1', '1,1', '1 1,', 'x', '1 x', 'None', 'True', '01 2?', '??  ??',
                 '1? 0', '1 0?', '10? 1', '100', '1 1 1 1 111', '\u0661', '1 \u00b9', '?' * 3, '"1"', '[1]', '* 1', '??\n??', '0-1']
        for text in texts + [thing for thing in strange_objects() if thing != '1']:
            for inputs in (1, 2):
                self.stops(0, parse_setting, inputs, text)

    def test_settings_hang_on_the_inputs(self):
        for text, inputs in [('1', 1), ('1 0 ?', 1), ('1?', 2), ('00 11 ?0', 2)]:
            self.assertEqual(format_setting(parse_setting(inputs, text)), text)
            self.stops(0, parse_setting, 3 - inputs, text)

    def test_new_lists(self):
        one = parse_setting(1, '1 0')
        one.clear()
        self.assertEqual(parse_setting(1, '1 0'), [(True,), (False,)])

    def test_by_name(self):
        self.assertEqual(parse_setting(text='?', inputs=1), [(None,)])
        self.assertEqual(format_setting(setting=[(None, True)]), '?1')


if __name__ == '__main__':
    unittest.main()
