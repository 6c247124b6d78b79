"""Promise [2] over the whole program: each function by position and by name, with objects of all kinds, several wrong."""

import importlib
import itertools
import unittest

from followrows import errors
from followrows.desk import Desk
from followrows.errors import FollowError
from followrows.led import Led
from followrows.shell import Shell
from followrows.texts import format_wish, format_writing
from tests.anything import LONG, leaves_alone, raises, shown, strange_objects
from tests.reference import LADDER, NO_WISHES, NO_WRITINGS
from tests.tables import SHORT, SPLIT, TURNS, WISH_EVEN, WISH_ONE, WISH_TURNS
from tests.test_interface import CLASSES, FUNCTIONS

ROW = [(None, None), (True, None)]
SETTING = [(None,), (True,)]
WORD = [(True,), (False,)]
RUNS = [((None,), 3), ((True,), 10 ** 39)]
MENU = [('each', (-1, 3)), ('nexts', (-4, -2))]
NO_NUMBERS = [-1, -LONG, True, False, None, '1', (1,), [1], 'a']
NO_COLUMNS = [(), (None,), (None, None, None), [None, None], (None, 0), (1, None), ('', ''), None, 'ab']
# Objects that are just not what a parameter of a name should be, besides the strange ones.
WRONG = {
    'InvalidWriting': NO_WRITINGS,
    'InvalidWish': NO_WISHES,
    'InvalidRow': [[], ROW + [()], [(None,)], [[None, None]], tuple(ROW), [(None, 1)]],
    'InvalidSetting': [[], [()], [(None, None)], [[None]], tuple(SETTING), [(0,)], [(1,)]],
    'InvalidWord': [[], [()], SETTING, [(True, True)], [[True]], tuple(WORD), [(1,)]],
    'InvalidColumn': NO_COLUMNS,
    'InvalidStanding': [[(True, True), (None, None)], [(None, None)] * 2, [[None, None]], (), [(None,)], None],
    # No very large numbers: the clauses of as many columns would be too many to list.
    'InvalidNumber': NO_NUMBERS,
    'InvalidRuns': [[], [((None,), 0)], [((None, None), 1)], tuple(RUNS), [((None,), True)], RUNS * 51],
    'InvalidClause': [(), (0,), (5,), (2, 1), (1, 1), [1], (True,), None],
    'InvalidMenu': [(), [('each', (-1, 2))], [('each', (1,))] * 2, [('eaches', (1,))], [['each', (1,)]], [('each', (9,))]],
    'UnknownSign': NO_NUMBERS + [3],
    'UnknownEntry': [-1, 3, LONG, True, False, None, '1', (1,), [1], 'a'],
    'UnknownClause': [-1, 9, LONG, True, False, None, '1', (1,), [1], 'a'],
    'ParseError': ['', 'a', None, 0, 'inputs 1', 'inputs 1 size 1\n', '1 ', 'inputs 1\ngood 0'],
}
# Parameters that take any object; those of which nothing is promised but for what they should be have None.
ANY = 'any'
PLACES = {
    'writing': 'InvalidWriting', 'wish': 'InvalidWish', 'row': 'InvalidRow', 'setting': 'InvalidSetting', 'word': 'InvalidWord',
    'many': 'InvalidNumber', 'limit': 'InvalidNumber', 'most': 'InvalidNumber', 'gap': 'InvalidNumber',
    'place': 'InvalidNumber', 'standing': 'InvalidStanding', 'lemma': 'InvalidClause', 'menu': 'InvalidMenu',
    'runs': 'InvalidRuns', 'sign': 'UnknownEntry', 'text': 'ParseError', 'thing': ANY, 'index': 'UnknownClause',
    'part': 'UnknownClause', 'size': None, 'inputs': None,
}
USUAL = {
    'writing': LADDER, 'wish': WISH_ONE, 'row': ROW, 'setting': SETTING, 'word': WORD, 'many': 3, 'limit': 10, 'most': 2,
    'gap': 2, 'place': 2, 'lemma': (-3, -1), 'runs': RUNS, 'sign': 2, 'thing': None, 'size': 2, 'inputs': 1,
    'standing': [(None, None), (True, True)], 'index': 0, 'part': 'each', 'menu': [('last', (1,))],
}
# What a function takes where it is not the usual thing.
OTHERS = {
    'writing_of': {'inputs': (1, 'InvalidWriting'), 'size': (2, 'InvalidWriting'), 'first': ([(1,)], 'InvalidWriting'),
                   'each': ([[-1, 2]], 'InvalidWriting'), 'nexts': (((-2, 4),), 'InvalidWriting'), 'last': ((), 'InvalidWriting')},
    'is_less': {'one': (SETTING, None), 'other': (WORD, None)},
    'reason': {'column': (0, 'UnknownEntry')},
    'is_reason': {'column': (0, 'UnknownEntry')},
    'both': {'one': (WISH_ONE, 'InvalidWish'), 'other': (WISH_EVEN, 'InvalidWish')},
    'parting_word': {'one': (WISH_ONE, 'InvalidWish'), 'other': (WISH_EVEN, 'InvalidWish')},
    'parting': {'one': (LADDER, 'InvalidWriting'), 'other': (SPLIT, 'InvalidWriting')},
    'are_alike': {'one': (LADDER, 'InvalidWriting'), 'other': (SPLIT, 'InvalidWriting')},
    'sees_more': {'one': (LADDER, 'InvalidWriting'), 'other': (SPLIT, 'InvalidWriting')},
    'joined': {'one': (LADDER, 'InvalidWriting'), 'other': (SHORT, 'InvalidWriting')},
    'followers': {'column': ((True, True), 'InvalidColumn')},
    'is_end': {'column': ((True, True), 'InvalidColumn')},
    'behind': {'column': ((True, True), 'InvalidColumn')},
    'least_additions': {'writing': (SPLIT, 'InvalidWriting'), 'menu': (MENU, 'InvalidMenu')},
    'flipped': {'sign': (2, 'UnknownSign')},
    'format_writing': {'writing': (LADDER, None)},
    'format_wish': {'wish': (WISH_ONE, None)},
    'format_setting': {'setting': (SETTING, None)},
    'parse_writing': {'text': (format_writing(LADDER), 'ParseError')},
    'parse_wish': {'text': (format_wish(WISH_ONE), 'ParseError')},
    'parse_setting': {'text': ('? 1', 'ParseError')},
    'writing_for': {'wish': (WISH_EVEN, 'InvalidWish')},
}
# Strange objects that are what a parameter of a function should be, by their texts.
FINE = {
    ('flat', 'many'): (5, 17, 10 ** 20, LONG), ('cost', 'many'): (5, 17, 10 ** 20, LONG), ('words', 'many'): (5,),
    ('at_most', 'most'): (0, 5), ('just', 'most'): (0, 5), ('apart', 'gap'): (5,), ('standings', 'limit'): (5, 17),
    ('behind', 'standing'): ([],), ('with_all', 'menu'): ([],), ('least_additions', 'menu'): ([],),
    ('reason', 'column'): (0,), ('is_reason', 'column'): (0,), ('without', 'index'): (0,), ('run_told', 'place'): (0, 5, 17, 10 ** 20),
    ('parse_writing', 'text'): ('inputs 1 size 2',), ('parse_setting', 'text'): ('1',), ('writing_of', 'first'): ((), []),
    ('writing_of', 'each'): ((), []), ('writing_of', 'nexts'): ((), []), ('writing_of', 'last'): ((), []),
    ('count_written', 'many'): (5, 17), ('count_wished', 'many'): (5, 17), ('count_dead', 'many'): (5, 17),
    ('count_lost', 'many'): (5, 17),
}
WRONG_PARTS = ['', 'firsts', 'last', 'inputs', None, 0, ('each',), ['each'], {'each': 0}]


def parameters(line):
    """Return the list of the names of the parameters of a function as the interface writes it."""
    inside = line.partition('(')[2].rstrip(')').replace('()', '')
    return [word.partition('=')[0] for word in inside.split(', ')]


def cases():
    """Return tuples of a function, its name, and triples (parameter, value, error) for its parameters in order."""
    found = []
    for place, lines in FUNCTIONS.items():
        module = importlib.import_module(place)
        for line in lines:
            name = line.partition('(')[0]
            told = []
            for parameter in parameters(line):
                value, error = OTHERS.get(name, {}).get(parameter) or (USUAL[parameter], PLACES[parameter])
                told.append((parameter, value, error))
            found.append((getattr(module, name), name, told))
    return found


def wrong_for(name, parameter, error):
    """Return objects that a parameter of a function must refuse by an error."""
    if parameter == 'part':
        things = WRONG_PARTS + [thing for thing in strange_objects() if thing != 'each']
    elif name == 'writing_of':
        # In these places anything wrong makes it no writing.
        things = [0, None, 'a', {}, (1,), [1], [(0,)], ((2, 1),), [[True]], [(1,), [1]]] + strange_objects()
    else:
        things = strange_objects() + WRONG[error]
    fine = [shown(thing) for thing in FINE.get((name, parameter), ())]
    return [thing for thing in things if shown(thing) not in fine]


class ByName(unittest.TestCase):

    def test_functions(self):
        for function, name, told in cases():
            expected = leaves_alone(self, function, *[value for _, value, _ in told])
            orders = list(itertools.permutations(told)) if len(told) < 5 else [told[k:] + told[:k] for k in range(len(told))]
            for order in orders:
                with self.subTest(name, order=[parameter for parameter, _, _ in order]):
                    found = function(**{parameter: value for parameter, value, _ in order})
                    self.assertEqual(shown(found), shown(expected))

    def test_some_by_position_and_others_by_name(self):
        for function, name, told in cases():
            expected = function(*[value for _, value, _ in told])
            for many in range(len(told)):
                found = function(*[value for _, value, _ in told[:many]],
                                 **{parameter: value for parameter, value, _ in told[:many - 1 if many else None:-1]})
                self.assertEqual(shown(found), shown(expected), name)

    def test_classes(self):
        one, other = Led(LADDER, 3), Led(many=3, writing=LADDER)
        self.assertEqual(one.tell(1, 1, True), other.tell(value=True, sign=1, column=1))
        self.assertEqual(one.reason(0, 1), other.reason(sign=1, column=0))
        self.assertEqual([one.row, one.told], [other.row, other.told])
        one, other = Desk(SHORT, WISH_ONE), Desk(wish=WISH_ONE, writing=SHORT)
        self.assertEqual(one.add('nexts', (-2, 4)), other.add(clause=(-2, 4), part='nexts'))
        self.assertEqual(one.remove('nexts', 0), other.remove(index=0, part='nexts'))
        self.assertEqual(one.ask('all'), other.ask(question='all'))
        self.assertEqual(one.undo(), other.undo(steps=1))
        self.assertEqual([one.writing, one.wish, one.kept()], [other.writing, other.wish, other.kept()])
        self.assertEqual(Shell().run('names'), Shell().run(line='names'))

    def test_answers_of_equal_calls_are_equal_and_new(self):
        for function, name, told in cases():
            one, other = [function(*[value for _, value, _ in told]) for _ in range(2)]
            self.assertEqual(shown(one), shown(other), name)
            if isinstance(one, list):
                self.assertIsNot(one, other, name)
                for _, value, _ in told:
                    self.assertIsNot(one, value, name)


class AnyObjects(unittest.TestCase):

    def test_each_parameter(self):
        for function, name, told in cases():
            values = [value for _, value, _ in told]
            for place, (parameter, _, error) in enumerate(told):
                if error is None or error == ANY:
                    continue
                for thing in wrong_for(name, parameter, error):
                    with self.subTest(name, parameter=parameter):
                        raises(self, getattr(errors, error), function, *values[:place], thing, *values[place + 1:])

    def test_where_any_object_is_taken(self):
        for function, name, told in cases():
            values = [value for _, value, error in told if error != ANY]
            if len(values) < len(told):
                self.assertEqual(told[-1][2], ANY)
                for thing in strange_objects() + NO_WRITINGS + NO_WISHES + [ROW, SETTING, RUNS, MENU]:
                    self.assertIn(leaves_alone(self, function, *values, thing), (True, False))
                    self.assertIs(function(*values, thing).__class__, bool)

    def test_several_wrong_at_once(self):
        for function, name, told in cases():
            wrong = [wrong_for(name, parameter, error)[::7] + [None] if error not in (None, ANY) else [value]
                     for parameter, value, error in told]
            if ('index' in dict((parameter, 0) for parameter, _, _ in told)) or name == 'writing_of':
                wrong = [things[:3] + things[-1:] for things in wrong]
            places = [place for place, (_, _, error) in enumerate(told) if error not in (None, ANY)]
            # From each place on, everything is wrong; what is listed first is raised.
            for start in range(len(places)):
                values = [value for _, value, _ in told]
                for number in range(max(len(things) for things in wrong)):
                    for place in places[start:]:
                        values[place] = wrong[place][number % len(wrong[place])]
                    with self.subTest(name, start=start):
                        raises(self, getattr(errors, told[places[start]][2]), function, *values)

    def test_unlike_numbers_of_inputs(self):
        found = []
        for function, name, told in cases():
            pairs = {parameter: value for parameter, value, _ in told}
            if {'writing', 'wish'} <= set(pairs):
                other = {'wish': WISH_TURNS}
            elif {'one', 'other'} <= set(pairs) and name != 'is_less':
                other = {'other': TURNS if len(pairs['one']) == 6 else WISH_TURNS}
            else:
                continue
            with self.assertRaises(errors.InvalidMatch, msg=name):
                function(**{**pairs, **other})
            found.append(name)
        self.assertEqual(len(found), 21)

    def test_nothing_else_is_raised(self):
        things = strange_objects() + NO_WRITINGS + NO_WISHES
        for function, name, told in cases():
            if any(error is None for _, _, error in told):
                continue
            for number in range(len(things)):
                values = [things[(number * (place + 1) + place * place) % len(things)] for place in range(len(told))]
                try:
                    leaves_alone(self, function, *values)
                except FollowError as caught:
                    self.assertIs(caught.__class__.__bases__[0], FollowError)

    def test_objects_of_classes(self):
        led, desk, shell = Led(LADDER, 3), Desk(SHORT, WISH_ONE), Shell()
        calls = [(led.tell, 3), (led.reason, 2), (desk.add, 2), (desk.remove, 2), (desk.ask, 1), (shell.run, 1), (Led, 2), (Desk, 2)]
        before = [led.row, led.told, desk.writing, desk.wish, desk.kept(), desk.searches, shell.run('names')]
        for thing, (call, many) in itertools.product(strange_objects(), calls):
            with self.assertRaises(FollowError):
                leaves_alone(self, call, *[thing] * many)
        self.assertEqual(before, [led.row, led.told, desk.writing, desk.wish, desk.kept(), desk.searches, shell.run('names')])


class Interface(unittest.TestCase):

    def test_nothing_is_left_out(self):
        self.assertEqual(len(cases()), sum(len(lines) for lines in FUNCTIONS.values()))
        self.assertEqual([len(cases()), len(FUNCTIONS), len(CLASSES)], [81, 19, 3])


if __name__ == '__main__':
    unittest.main()
