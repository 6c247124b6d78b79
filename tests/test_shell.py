"""Promise [33], and of [2] what belongs to it: the shell."""

import itertools
import unittest

from followrows.alike import parting
from followrows.ends import unseen_end
from followrows.errors import (AlreadyTold, InvalidLine, InvalidMatch, InvalidName, InvalidNumber, InvalidSetting, InvalidValue,
                               IsDead, NothingToUndo, ParseError, UnknownEntry, UnknownName)
from followrows.forced import unseen
from followrows.right import wrong_word
from followrows.shell import Shell
from followrows.spare import needless
from followrows.texts import format_setting, format_wish, format_writing
from followrows.toomuch import too_much
from tests.anything import raises, strange_objects
from tests.reference import LADDER, all_rows, made_wishes, made_writings, slow_forced
from tests.tables import (EVERY, FREE, KNOWN, KNOWN_TWO, NEVER, SPLIT, TURNS, WISH_ONE, WISH_TURNS, WISHES, WISHES_TWO,
                          slow_seen)

# How many words each line has, the first one included.
WORDS = {'write': 3, 'wish': 3, 'seen': 3, 'come': 3, 'right': 3, 'ends': 3, 'all': 3, 'sound': 3, 'alike': 3, 'needless': 2,
         'lead': 4, 'tell': 5, 'undo': 2, 'row': 2, 'names': 1}
NO_NAMES = ['A', 'Ladder', 'ladders.', 'ladderrow', 'abcdefghi', 'a1', '1', 'a_b', '-', '/', ',', 'a,b', 'a\tb', '\ta', '?', "'a'",
            '\u00e4', '\u0131', 'aB', 'a-b', '*', '""']
NO_COUNTS = ['0', '301', '-1', '+1', '01', '003', '0300', '3.0', '1e2', 'a', 'None', 'True', '1000000000', '999999999', '9' * 5000,
             '3,', '\t3', '\u0663', '\u00b3', '-', '--3', '-0', '00']


def word_of(text):
    """Return a text as one word of a line."""
    return text.replace(' ', ',').replace('\n', '/')


def shell_with(writings, wishes):
    """Return a shell in which writings (a, b and so on) and wishes stand."""
    shell = Shell()
    for name, writing in zip('abcdefghijklmnopqrstuvwxyz', writings):
        shell.run('write ' + name + ' ' + word_of(format_writing(writing)))
    for name, wish in zip('abcdefghijklmnopqrstuvwxyz', wishes):
        shell.run('wish ' + name + ' ' + word_of(format_wish(wish)))
    return shell


def shown_row(row):
    """Return how a row is written in an answer."""
    return 'dead' if row is None else ' '.join(''.join('?' if entry is None else str(int(entry)) for entry in column)
                                               for column in row)


class Lines(unittest.TestCase):

    def setUp(self):
        self.shell = shell_with([LADDER, SPLIT, TURNS, NEVER], [WISH_ONE, EVERY, WISH_TURNS])

    def run_all(self, *lines):
        """Return the list of the answers of some lines."""
        return [self.shell.run(line) for line in lines]

    def test_document(self):
        self.shell = Shell()
        self.assertEqual(self.run_all('write ladder inputs,1,size,2/each,-1,2/nexts,-2,4/nexts,-3,-2',
                                      'wish most inputs,1/good,0,1/good,1,2/bad,2,2', 'right ladder most', 'all ladder most'),
                         ['ok', 'ok', 'yes', 'yes'])
        self.assertEqual(self.run_all('seen ladder ?,1,?', 'lead one ladder 3', 'tell one 1 1 1', 'row one', 'names'),
                         ['0 1 0', 'ok', '5', '00 11 01', 'ladder / most / one'])

    def test_names(self):
        self.shell = Shell()
        self.assertEqual(self.shell.run('names'), '- / - / -')
        self.shell.run('wish every inputs,1/good,0,0')
        self.assertEqual(self.shell.run('names'), '- / every / -')
        self.shell.run('write zz inputs,1,size,1')
        self.shell.run('write a inputs,1,size,1')
        self.shell.run('write abcdefgh inputs,1,size,1')
        self.assertEqual(self.shell.run('names'), 'a abcdefgh zz / every / -')
        self.shell.run('lead every a 3')
        self.shell.run('lead b zz 3')
        self.assertEqual(self.shell.run('names'), 'a abcdefgh zz / every / b every')
        self.shell.run('wish a inputs,2/bad,0,0,0,0')
        self.assertEqual(self.shell.run('names'), 'a abcdefgh zz / a every / b every')

    def test_names_of_one_letter_to_eight(self):
        for name in ('a', 'z', 'az', 'write', 'names', 'seen', 'abcdefg', 'abcdefgh', 'zzzzzzzz', 'none', 'dead', 'ok'):
            self.assertEqual(self.run_all('write ' + name + ' inputs,1,size,1', 'wish ' + name + ' inputs,1/good,0,0',
                                          'lead ' + name + ' ' + name + ' 1', 'row ' + name,
                                          'right ' + name + ' ' + name, 'seen ' + name + ' 1', 'come ' + name + ' ?'),
                             ['ok', 'ok', 'ok', '?', 'yes', '1', 'yes'])

    def test_one_name_for_one_of_each(self):
        self.shell = Shell()
        self.assertEqual(self.run_all('write x inputs,1,size,1/each,-1', 'wish x inputs,1/good,0,1/bad,1,1', 'lead x x 2', 'names'),
                         ['ok', 'ok', 'ok', 'x / x / x'])
        self.assertEqual(self.run_all('right x x', 'seen x ?,?', 'come x 1', 'row x', 'alike x x', 'needless x'),
                         ['yes', '0 0', 'no', '0 0', 'yes', 'none'])
        self.assertEqual(self.run_all('write x inputs,2,size,2', 'wish x inputs,1/bad,0,0', 'row x', 'come x 0', 'seen x 1?'),
                         ['ok', 'ok', '0 0', 'no', '1?'])

    def test_names_put_again(self):
        for writing in (SPLIT, TURNS, FREE, LADDER):
            self.shell.run('write a ' + word_of(format_writing(writing)))
            self.assertEqual(self.shell.run('alike a a'), 'yes')
            self.assertEqual(self.shell.run('seen a ' + '?' * writing[0]), '?' * writing[0])
        self.assertEqual(self.run_all('names', 'wish a inputs,1/bad,0,0', 'come a ?', 'names'),
                         ['a b c d / a b c / -', 'ok', 'no', 'a b c d / a b c / -'])
        self.assertEqual(self.run_all('lead a a 2', 'tell a 0 1 1', 'row a', 'lead a a 1', 'row a', 'names'),
                         ['ok', '3', '11 01', 'ok', '??', 'a b c d / a b c / a'])

    def test_led_rows_keep_their_writing(self):
        self.assertEqual(self.run_all('lead r a 3', 'tell r 1 1 1', 'write a inputs,2,size,2', 'row r', 'undo r', 'row r',
                                      'tell r 2 2 0', 'row r', 'seen a 1?'),
                         ['ok', '5', 'ok', '00 11 01', 'ok', '?? ?? ??', '5', '00 00 00', '1?'])

    def test_seen(self):
        for writing in KNOWN + KNOWN_TWO + made_writings(1, 2, 6, seed=1) + made_writings(2, 3, 3, seed=2):
            self.shell.run('write w ' + word_of(format_writing(writing)))
            for many in (1, 2) if writing[0] == 2 else (1, 2, 3):
                for setting in all_rows(writing[0], many)[::3]:
                    told = self.shell.run('seen w ' + word_of(format_setting(setting)))
                    self.assertEqual(told, shown_row(slow_seen(writing, setting)))

    def test_come(self):
        for wish in WISHES + WISHES_TWO + made_wishes(1, 3, 4, seed=1):
            self.shell.run('wish w ' + word_of(format_wish(wish)))
            for setting in all_rows(wish[0], 2):
                told = self.shell.run('come w ' + word_of(format_setting(setting)))
                self.assertEqual(told, 'no' if slow_forced(wish, setting) is None else 'yes')

    def test_questions(self):
        functions = {'right': wrong_word, 'ends': unseen_end, 'all': unseen, 'sound': too_much}
        answers = set()
        for writings, wishes in ((KNOWN + made_writings(1, 2, 5, seed=3), WISHES), (KNOWN_TWO, WISHES_TWO)):
            self.shell = shell_with(writings, wishes)
            pairs = itertools.product(zip('abcdefghijklmno', writings), zip('abcdefghijklmno', wishes))
            for (name, writing), (other, wish) in pairs:
                for first, function in functions.items():
                    found = function(writing, wish)
                    told = self.shell.run(' '.join([first, name, other]))
                    self.assertEqual(told, 'yes' if found is None else format_setting(found))
                    answers.add(told)
        self.assertTrue({'yes', '?', '0', '0?', '1 0 1', '1 ? 1', '? 1'} & answers)
        self.assertGreater(len(answers), 10)

    def test_some_answers(self):
        self.assertEqual(self.run_all('right a a', 'right b a', 'right d a', 'ends b a', 'all b a', 'sound b a', 'sound a b',
                                      'sound d b', 'ends d a', 'all a b', 'right c c', 'all c c'),
                         ['yes', 'yes', '0', 'yes', '? 1', 'yes', '? 1', '?', 'yes', 'yes', 'yes', 'yes'])

    def test_alike(self):
        for writings in (KNOWN[:6], KNOWN_TWO):
            self.shell = shell_with(writings, [])
            for (name, one), (other, two) in itertools.product(zip('abcdef', writings), repeat=2):
                found = parting(one, two)
                self.assertEqual(self.shell.run('alike ' + name + ' ' + other), 'yes' if found is None else format_setting(found))

    def test_needless(self):
        self.assertEqual(self.run_all('needless a', 'needless c'), ['none', 'none'])
        self.shell.run('write n inputs,1,size,1/first,1/each,1/nexts,1,2/last,1')
        self.assertEqual(self.shell.run('needless n'), 'first.0 nexts.0 last.0')
        for writing in made_writings(1, 2, 12, seed=4) + made_writings(2, 2, 3, seed=5):
            self.shell.run('write n ' + word_of(format_writing(writing)))
            found = ' '.join(part + '.' + str(index) for part, index in needless(writing))
            self.assertEqual(self.shell.run('needless n'), found or 'none')

    def test_led_rows(self):
        self.assertEqual(self.run_all('lead r a 4', 'row r', 'tell r 3 2 0', 'row r', 'undo r', 'row r', 'tell r 0 1 1', 'row r'),
                         ['ok', '?? ?? ?? ??', '7', '00 00 00 00', 'ok', '?? ?? ?? ??', '7', '11 01 01 01'])
        self.assertEqual(self.run_all('lead r b 3', 'tell r 0 1 1', 'tell r 2 1 1', 'row r', 'undo r', 'row r', 'undo r', 'row r'),
                         ['ok', '3', 'dead', 'dead', 'ok', '11? ?1? ?1?', 'ok', '??? ??? ???'])
        self.assertEqual(self.run_all('lead r d 2', 'row r', 'lead q c 2', 'tell q 1 2 1', 'row q'), ['ok', 'dead', 'ok', '3', '10 01'])
        self.assertEqual(self.run_all('write f inputs,1,size,1', 'lead r f 300', 'tell r 299 1 0', 'row r'),
                         ['ok', 'ok', '0', '? ' * 299 + '0'])

    def test_by_name(self):
        self.assertEqual(self.shell.run(line='names'), 'a b c d / a b c / -')

    def test_shells_are_independent(self):
        other = Shell()
        self.assertEqual([other.run('names'), self.shell.run('names')], ['- / - / -', 'a b c d / a b c / -'])


class Errors(unittest.TestCase):

    def setUp(self):
        self.shell = shell_with([LADDER, SPLIT, TURNS, NEVER], [WISH_ONE, EVERY, WISH_TURNS])
        for line in ('lead a a 3', 'tell a 1 1 1', 'lead b a 3', 'lead d d 3'):
            self.shell.run(line)

    def state(self):
        """Return answers that tell what stands in the shell."""
        lines = ['names', 'seen a ?,1,?', 'seen b 1,?,?', 'seen c 1?', 'seen d ?', 'all a a', 'right b a', 'right c c', 'come b 1',
                 'row a', 'row b', 'row d', 'needless a']
        return [self.shell.run(line) for line in lines]

    def refuses(self, error, *lines):
        """Fail unless each line raises just this error and changes nothing."""
        before = self.state()
        for line in lines:
            with self.subTest(line=line):
                raises(self, error, self.shell.run, line)
        self.assertEqual(self.state(), before)

    def test_no_string(self):
        things = [thing for thing in strange_objects() if thing.__class__ is not str]
        self.refuses(InvalidLine, *things, ['names'], ('names',), b'names', {'names': 'names'})

    def test_unknown_words(self):
        self.refuses(InvalidLine, '', ' ', '\n', 'name', 'Names', 'NAMES', 'seem a ?', 'help', 'exit', 'names.', '-', '"names"',
                     'names\t', '\tnames', 'write\ta\tb', 'row\ta', 'copy a', 'told a', 'reason a 1 1')
        self.refuses(InvalidLine, *[thing for thing in strange_objects() if thing.__class__ is str])

    def test_words_too_many_and_too_few(self):
        words = ['a', 'a', '1', '1', '1', '1']
        for first, many in WORDS.items():
            for number in range(6):
                if number + 1 != many:
                    self.refuses(InvalidLine, ' '.join([first] + words[:number]))

    def test_spaces_and_line_feeds(self):
        lines = ['write x inputs,1,size,1', 'wish x inputs,1/good,0,0', 'seen a ?', 'come a ?', 'right a a', 'ends a a', 'all a a',
                 'sound a a', 'alike a a', 'needless a', 'lead a a 3', 'tell b 1 1 1', 'undo a', 'row a', 'names']
        self.assertEqual([line.partition(' ')[0] for line in lines], list(WORDS))
        for line in lines:
            wrong = [' ' + line, line + ' ', line + '\n', '\n' + line, line + '\nnames', '  ' + line, line + ' \n']
            if ' ' in line:
                wrong += [line.replace(' ', '  ', 1), line.replace(' ', '\n', 1), line.replace(' ', ' \n', 1),
                          '  '.join(line.rsplit(' ', 1)), '\n'.join(line.rsplit(' ', 1)), line.rpartition(' ')[0] + ' ',
                          line.replace(' ', '\t', 1) if line.count(' ') == 1 else line + ' ']
            self.refuses(InvalidLine, *wrong)

    def test_line_ahead_of_all_else(self):
        self.refuses(InvalidLine, 'write A', 'write A nothing more', 'lead A nowhere', 'lead A nowhere x y', 'seen nowhere',
                     'seen nowhere 2 2', 'tell nowhere 9 9', 'tell a 9 9 9 9', 'undo nowhere x', 'right nowhere', 'names nowhere',
                     'alike nowhere nowhere nowhere', 'wish  A', 'lead A a 0 ')

    def test_no_name(self):
        for name in NO_NAMES:
            self.refuses(InvalidName, 'write ' + name + ' inputs,1,size,1', 'write ' + name + ' nothing',
                         'wish ' + name + ' inputs,1/good,0,0', 'wish ' + name + ' nothing', 'lead ' + name + ' a 3',
                         'lead ' + name + ' nowhere 3', 'lead ' + name + ' a 0', 'lead ' + name + ' ' + name + ' ' + name)

    def test_unknown_names(self):
        for name in ['nowhere', 'x', 'aa', 'A', 'ladder', 'abcdefghi', '1', '?', '-'] + NO_NAMES:
            self.refuses(UnknownName, 'seen ' + name + ' ?', 'seen ' + name + ' 2', 'come ' + name + ' ?', 'come ' + name + ' 2',
                         'right ' + name + ' a', 'right a ' + name, 'right c ' + name, 'ends ' + name + ' a', 'ends a ' + name,
                         'all ' + name + ' c', 'all a ' + name, 'sound ' + name + ' a', 'sound a ' + name,
                         'alike ' + name + ' a', 'alike a ' + name, 'alike c ' + name, 'needless ' + name,
                         'lead x ' + name + ' 3', 'lead x ' + name + ' 0', 'tell ' + name + ' 1 1 1', 'tell ' + name + ' 9 9 9',
                         'undo ' + name, 'row ' + name)

    def test_names_of_another_lot(self):
        for line in ('write w inputs,1,size,1', 'wish i inputs,1/good,0,0', 'lead l w 3'):
            self.shell.run(line)
        self.refuses(UnknownName, 'seen i ?', 'seen l ?', 'come w ?', 'come l ?', 'right i w', 'right i i', 'right w w', 'right w l',
                     'ends w w', 'all i i', 'sound l i', 'alike w i', 'alike i w', 'alike w l', 'needless i', 'needless l',
                     'lead x i 3', 'lead x l 3', 'tell w 0 1 1', 'tell i 0 1 1', 'undo w', 'undo i', 'row w', 'row i')

    def parse_line(self, line):
        """Return the line that a ParseError of a line of the shell tells."""
        with self.assertRaises(ParseError) as caught:
            self.shell.run(line)
        self.assertIs(caught.exception.__class__, ParseError)
        return caught.exception.line

    def test_texts(self):
        before = self.state()
        for text, line in [('nothing', 0), ('inputs,1,size,1/', 1), ('inputs,1,size,1,', 0), ('/inputs,1,size,1', 0),
                           ('inputs,1,size,1/each,2', 1), ('inputs,1,size,1/each,1/each,1', 2), ('inputs,1,size,5', 0),
                           ('inputs,1,size,2/each,1/first,1', 2), ('inputs,1,size,2//each,1', 1), ('inputs\t1\tsize\t1', 0),
                           ('inputs,1,size,2/each,1,/each,2', 1), ('inputs.1.size.2', 0), (',', 0), ('/', 0),
                           ('inputs,1/good,0,0', 0)]:
            for name in ('a', 'x'):
                self.assertEqual(self.parse_line('write ' + name + ' ' + text), line)
        for text, line in [('nothing', 0), ('inputs,1', 1), ('inputs,1/', 1), ('inputs,1/good,0', 1), ('inputs,1/good,0,1', 2),
                           ('inputs,1/good,0,0/', 2), ('inputs,3/good,0,0', 0), ('inputs,1/good,0,-1', 1),
                           ('inputs,1/good,0,' + '9' * 6000, 2), ('inputs,2/good,0,0', 1), ('inputs,1,size,1', 0),
                           ('inputs,1' + '/good,0,0' * 13, 13)]:
            for name in ('a', 'x'):
                self.assertEqual(self.parse_line('wish ' + name + ' ' + text), line)
        self.assertEqual(self.state(), before)

    def test_no_setting(self):
        for word in ['2', '11', '?,', ',?', '?,,?', '1,2', '/', '1/0', '?,1/?', '-1', 'x', 'None', '1,\t', '10,1', '?\t?', '?;?', 'nowhere']:
            self.refuses(InvalidSetting, 'seen a ' + word, 'seen d ' + word, 'come a ' + word, 'come b ' + word)
        for word in ['?', '1,0', '???', '11,0', '??,', '11/00', '1?,?2']:
            self.refuses(InvalidSetting, 'seen c ' + word, 'come c ' + word)

    def test_no_match(self):
        self.refuses(InvalidMatch, *[first + ' ' + pair for first in ('right', 'ends', 'all', 'sound')
                                     for pair in ('a c', 'c a', 'd c', 'c b')])
        self.refuses(InvalidMatch, 'alike a c', 'alike c a', 'alike d c', 'alike c b')

    def test_counts(self):
        for count in NO_COUNTS:
            self.refuses(InvalidNumber, 'lead x a ' + count, 'lead a c ' + count, 'lead d d ' + count)
        for count in ('1', '9', '10', '99', '100', '299', '300'):
            self.shell.run('lead x c ' + count)
            self.assertEqual(self.shell.run('row x'), ' '.join(['??'] * int(count)))

    def test_entries(self):
        numbers = ['-1', '+1', '01', '00', '-0', '000', '1.0', 'a', 'None', 'True', '?', '1,', '\t1', '\u0661', '\u00b9', '1000000000',
                   '999999999', '0000000001', '9' * 5000, '3', '300', '4']
        for led in ('a', 'b', 'd'):
            for value in ('1', '0', '2', 'x'):
                for number in numbers:
                    self.refuses(UnknownEntry, *['tell ' + ' '.join([led, number, sign, value]) for sign in ('1', '0', 'x')])
                    self.refuses(UnknownEntry, *['tell ' + ' '.join([led, column, number, value]) for column in ('0', '2', 'x')
                                                 if number not in ('1', '2')])
                self.refuses(UnknownEntry, 'tell ' + led + ' 0 0 ' + value, 'tell ' + led + ' 2 3 ' + value)

    def test_values(self):
        for value in ('2', '-1', '?', 'True', 'False', 'None', '00', '01', '11', '+1', 'x', '1,', '\t1', '0.0', '\u0661', '9' * 5000):
            self.refuses(InvalidValue, *['tell ' + led + ' ' + entry + ' ' + value for led in ('a', 'b', 'd') for entry in ('0 1', '1 1')
                                         if led != 'd' or entry == '0 1'])

    def test_led_rows(self):
        self.refuses(IsDead, 'tell d 0 1 1', 'tell d 2 1 0')
        self.refuses(AlreadyTold, 'tell a 1 1 1', 'tell a 1 1 0', 'tell a 0 1 0', 'tell a 2 2 0')
        self.refuses(NothingToUndo, 'undo b', 'undo d')
        self.assertEqual(self.shell.run('undo a'), 'ok')
        self.refuses(NothingToUndo, 'undo a')

    def test_in_their_order(self):
        self.refuses(InvalidName, 'lead A nowhere 0', 'write A nothing', 'wish A nothing')
        self.refuses(UnknownName, 'lead x nowhere 0', 'seen nowhere 2', 'come nowhere 2', 'tell nowhere x x x')
        self.refuses(UnknownEntry, 'tell d x 1 2', 'tell d 0 9 2', 'tell a 3 1 2')
        self.refuses(InvalidValue, 'tell d 0 1 2', 'tell a 1 1 2')


if __name__ == '__main__':
    unittest.main()
