"""The examples of DOC.md, as they stand there, and those of README.md."""

import pathlib
import unittest

from followrows import errors

README = pathlib.Path(__file__).resolve().parent.parent / 'README.md'

EXAMPLES = r"""
>>> from followrows.clauses import cost, flat, is_clause, writing_of
>>> ladder = writing_of(1, 2, each=[(-1, 2)], nexts=[(-2, 4), (-3, -2)])
>>> ladder
(1, 2, (), ((-1, 2),), ((-2, 4), (-3, -2)), ())
>>> [is_clause(2, (-2, 1)), is_clause(2, (1, -2)), is_clause(2, (-1, 1))]
[True, False, False]
>>> flat(ladder, 2)
[(-1, 2), (-3, 4), (-2, 4), (-3, -2)]
>>> cost(ladder, 10 ** 20)
(200000000000000000000, 299999999999999999998)

>>> from followrows.columns import all_columns, bare, inputs_of, is_less, is_setting
>>> all_columns(1)
[(None,), (False,), (True,)]
>>> bare(ladder, [(None,), (True,)])
[(None, None), (True, None)]
>>> inputs_of(ladder, [(None, False), (True, None)])
[(None,), (True,)]
>>> [is_less([(True,)], [(None,), (None,)]), is_less([(True,)], [(False,)]), is_setting(1, [])]
[True, False, False]

>>> from followrows.following import followed, seen
>>> followed(ladder, [(None, None), (True, None), (None, None)])
[(False, False), (True, True), (False, True)]
>>> [seen(ladder, [(True,), (None,), (None,)]), seen(ladder, [(True,), (None,), (True,)])]
[[(True,), (False,), (False,)], None]

>>> from followrows.courses import course, is_course, is_reason, reason
>>> row = [(None, None), (True, None)]
>>> is_course(ladder, row, [('nexts', 1, 0), ('each', 0, 1), ('each', 0, 0)])
True
>>> [is_reason(ladder, row, 0, 2, reason(ladder, row, 0, 2)), reason(ladder, [(None, None)], 0, 2)]
[True, None]
>>> is_reason(ladder, row, 0, 1, [('nexts', 1, 0), ('each', 0, 0)])
True

>>> from followrows.words import filling, has_filling, how_many, is_written, words
>>> words(ladder, 2)
[[(False,), (False,)], [(False,), (True,)], [(True,), (False,)]]
>>> [filling(ladder, [(True,), (False,)]), how_many(ladder, [(False,), (False,)]), is_written(ladder, [(True,), (True,)])]
[[(True, True), (False, True)], 3, False]
>>> has_filling(ladder, [(None,), (True,)])
True

>>> from followrows.wishes import apart, at_most, both, can_come, forced, is_wished, just, parting_word
>>> at_most(1)
(1, ((0, 1), (1, 2), (2, 2)), (True, True, False))
>>> apart(1)
(1, ((0, 1), (0, 2), (2, 2)), (True, True, False))
>>> [forced(just(1), [(False,), (None,)]), forced(at_most(1), [(True,), (None,), (True,)]), can_come(apart(2), [(True,), (None,), (True,)])]
[[(False,), (True,)], None, False]
>>> [parting_word(at_most(1), apart(1)), parting_word(both(at_most(2), at_most(1)), at_most(1))]
[[(True,), (False,), (True,)], None]

>>> from followrows.settled import behind, followers, is_end, is_settled, standing_of, standings, starts
>>> starts(ladder)
[(None, None), (None, True), (False, None), (False, False), (False, True), (True, True)]
>>> [followers(ladder, (True, True)), followers(ladder, (None, None))]
[[(False, True)], [(None, None), (None, True), (False, None), (False, True)]]
>>> [is_settled(ladder, [(None, None), (True, True)]), is_settled(ladder, [(False, False), (True, True)]), is_end(ladder, (None, None))]
[False, True, True]
>>> standings(ladder, 10)[2:]
[[(True, True)], [(False, True)], []]
>>> standing_of(ladder, [(None, None), (True, None)]) == behind(ladder, starts(ladder), (True, None))
True

>>> from followrows.right import is_right, shows_words, words_table, wrong_word
>>> short = writing_of(1, 2, each=[(-1, 2)], nexts=[(-3, -2)])
>>> [is_right(ladder, at_most(1)), wrong_word(short, at_most(1)), wrong_word(ladder, just(1))]
[True, [(True,), (False,), (True,)], [(False,)]]
>>> [len(words_table(ladder, at_most(1))), words_table(ladder, just(1)), shows_words(ladder, at_most(1), [])]
[4, None, False]

>>> from followrows.ends import ends_table, sees_ends, shows_ends, unseen_end
>>> [sees_ends(ladder, at_most(1)), unseen_end(short, at_most(1)), len(ends_table(ladder, at_most(1)))]
[True, [(True,), (None,), (True,)], 13]
>>> shows_ends(ladder, at_most(1), ends_table(ladder, at_most(1))[:-1])
False

>>> from followrows.forced import all_table, sees_all, shows_all, unseen
>>> split = writing_of(1, 3, each=[(-1, 2)], nexts=[(-2, 5), (-4, -2, 6), (-6, -4, -2)])
>>> [is_right(split, at_most(1)), sees_ends(split, at_most(1)), unseen(split, at_most(1)), sees_all(ladder, at_most(1))]
[True, True, [(None,), (True,)], True]
>>> free, every = writing_of(1, 1), (1, ((0, 0),), (True,))
>>> [all_table(split, at_most(1)), [len(part) for part in all_table(free, every)], shows_all(free, every, all_table(free, every))]
[None, [3, 3], True]

>>> from followrows.toomuch import is_sound, too_much
>>> [is_sound(ladder, at_most(2)), too_much(ladder, at_most(2)), is_sound(split, at_most(1))]
[False, [(None,), (True,)], True]

>>> from followrows.alike import are_alike, is_closed, parting, sees_more
>>> [parting(ladder, split), sees_more(ladder, split), sees_more(split, ladder), are_alike(ladder, ladder)]
[[(None,), (True,)], True, False, True]
>>> [is_closed(ladder, [(None,), (True,)]), is_closed(split, [(None,), (True,)])]
[False, True]

>>> from followrows.spare import least_additions, needless, with_all, without
>>> [needless(ladder), without(ladder, 'nexts', 0) == short]
[[], True]
>>> least_additions(split, at_most(1), [('each', (-1, 3)), ('nexts', (-4, -2)), ('each', (-3, 1))])
[[1]]

>>> from followrows.lemmas import broken_at, holds, is_followed, is_kept
>>> [holds(split, (-4, -2)), is_followed(split, (-4, -2)), is_kept(split, (-4, -2)), is_kept(ladder, (-3, -1))]
[True, True, False, True]
>>> broken_at(ladder, (1, 2, 3, 4))
([(False, False), (False, False)], 0)

>>> from followrows.turned import flipped, joined, mirrored
>>> mirrored(ladder)
(1, 2, (), ((-1, 2),), ((-4, 2), (-4, -1)), ())
>>> flipped(ladder, 2)
(1, 2, (), ((-2, -1),), ((-4, 2), (-3, 2)), ())
>>> joined(ladder, writing_of(1, 2, first=[(-2, 1)], last=[(2,)]))
(1, 3, ((-3, 1),), ((-1, 2),), ((-2, 5), (-4, -2)), ((3,),))

>>> from followrows.runs import run_can_come, run_told
>>> long = [((None,), 10 ** 30), ((True,), 1), ((None,), 10 ** 30)]
>>> [run_told(ladder, long, 7), run_told(ladder, long, 2 * 10 ** 30), run_told(ladder, long + long, 7)]
[(False, False), (False, True), None]
>>> [run_can_come(just(1), long), run_can_come(just(2), [((False,), 10 ** 30)])]
[True, False]

>>> from followrows.counts import count_dead, count_lost, count_wished, count_written
>>> [count_written(ladder, 300), count_wished(apart(1), 5), count_dead(ladder, 2), count_lost(at_most(1), 3)]
[301, 13, 1, 7]

>>> from followrows.led import Led
>>> led = Led(ladder, 3)
>>> [led.row, led.tell(1, 1, True), led.row]
[[(None, None), (None, None), (None, None)], [(0, 1, False), (0, 2, False), (1, 2, True), (2, 1, False), (2, 2, True)], [(False, False), (True, True), (False, True)]]
>>> [led.undo(), led.tell(0, 2, True), led.tell(2, 2, False)]
raises AlreadyTold
>>> [led.told, len(led), is_reason(ladder, [(None, True), (None, None), (None, None)], 1, 1, led.reason(1, 1))]
[[(0, 2, True)], 1, True]

>>> from followrows.texts import format_setting, format_wish, format_writing, parse_setting, parse_wish, parse_writing
>>> format_writing(ladder).split('\n')
['inputs 1 size 2', 'each -1 2', 'nexts -2 4', 'nexts -3 -2']
>>> format_wish(at_most(1)).split('\n')
['inputs 1', 'good 0 1', 'good 1 2', 'bad 2 2']
>>> [parse_setting(2, '1? 00'), format_setting([(None,), (True,)]), parse_writing(format_writing(split)) == split]
[[(True, None), (False, False)], '? 1', True]
>>> parse_wish('inputs 1\ngood 0 3')
raises ParseError with line 2

>>> from followrows.made import writing_for
>>> even = (1, ((0, 1), (1, 0)), (True, False))
>>> writing_for(even)
(1, 2, ((-2, 1), (-1, 2)), (), ((-4, -3, -2), (-4, 2, 3), (-3, 2, 4), (-2, 3, 4)), ((-2,),))
>>> [is_right(writing_for(even), even), sees_all(writing_for(even), even), writing_for((1, ((0, 0),), (True,)))]
[True, True, (1, 2, ((-2,),), (), ((-4,), (-2,)), ((-2,),))]

>>> from followrows.desk import Desk
>>> desk = Desk(short, at_most(1))
>>> [desk.ask('ends'), desk.ask('sound'), desk.searches, desk.add('nexts', (-2, 4)), desk.kept()]
[[(True,), (None,), (True,)], None, 2, None, {}]
>>> [desk.ask('ends'), desk.add('first', (1,)), desk.ask('ends'), desk.ask('sound'), desk.searches]
[None, None, None, [(None,)], 4]
>>> [desk.undo(steps=2), desk.kept(), desk.writing == short, len(desk)]
[None, {}, True, 0]

>>> from followrows.shell import Shell
>>> shell = Shell()
>>> [shell.run(line) for line in ['write ladder inputs,1,size,2/each,-1,2/nexts,-2,4/nexts,-3,-2', 'wish most inputs,1/good,0,1/good,1,2/bad,2,2', 'right ladder most', 'all ladder most']]
['ok', 'ok', 'yes', 'yes']
>>> [shell.run(line) for line in ['seen ladder ?,1,?', 'lead one ladder 3', 'tell one 1 1 1', 'row one', 'names']]
['0 1 0', 'ok', '5', '00 11 01', 'ladder / most / one']
"""


def split_examples(text):
    """Return the list of the pairs of a line of code and the answer that stands behind it, or None."""
    pairs = []
    for line in text.split('\n'):
        if line.startswith('>>> '):
            pairs.append((line[4:], None))
        elif line:
            pairs[-1] = (pairs[-1][0], line)
    return pairs


class Examples(unittest.TestCase):

    def check(self, text):
        """Fail unless each line of code in a text has the answer that stands behind it."""
        names = {}
        for code, answer in split_examples(text):
            with self.subTest(code):
                if answer is None:
                    exec(code, names)
                elif answer.startswith('raises '):
                    self.check_raised(answer, code, names)
                else:
                    self.assertEqual(repr(eval(code, names)), answer)

    def check_raised(self, answer, code, names):
        """Fail unless a line of code raises the error that stands behind it, with its line if one is told."""
        name, _, line = answer.removeprefix('raises ').partition(' with line ')
        with self.assertRaises(getattr(errors, name)) as caught:
            eval(code, names)
        if line:
            self.assertEqual(caught.exception.line, int(line))

    def test_document(self):
        self.check(EXAMPLES)

    def test_readme(self):
        blocks = README.read_text(encoding='utf-8').split('```')[1::2]
        self.check(''.join(block for block in blocks if block.startswith('\n>>> ')))


if __name__ == '__main__':
    unittest.main()
