"""Promise [32], and of [2] what belongs to it: desks."""

import itertools
import random
import unittest

from followrows.clauses import is_writing
from followrows.desk import Desk
from followrows.ends import unseen_end
from followrows.errors import (InvalidClause, InvalidMatch, InvalidNumber, InvalidQuestion, InvalidWish, InvalidWriting,
                               NothingToUndo, UnknownClause)
from followrows.forced import unseen
from followrows.toomuch import too_much
from tests.anything import LONG, raises, strange_objects
from tests.misfits import refuses_misfits
from tests.reference import LADDER, PARTS, all_clauses, made_wishes, made_writings, slow_forced, wished_words
from tests.tables import (COUNTER, EVERY, FREE, JUST_ONE, NEAR, NEVER, NO_WORD, SHORT, SPLIT, TURNS, WISH_COUNTER, WISH_EVEN,
                          WISH_JUST_ONE, WISH_NEAR, WISH_ONE, WISH_TURNS, lets_forced, slow_seen, tells)

SEARCHES = {'all': unseen, 'ends': unseen_end, 'sound': too_much}
PLAYED = [(SHORT, WISH_ONE), (LADDER, WISH_ONE), (SPLIT, WISH_ONE), (COUNTER, WISH_COUNTER), (JUST_ONE, WISH_JUST_ONE),
          (NEAR, WISH_NEAR), (FREE, WISH_EVEN), (NEVER, EVERY), (FREE, NO_WORD), (TURNS, WISH_TURNS), (LADDER, WISH_COUNTER)]
PLAYED += list(zip(made_writings(1, 2, 8, seed=1, clauses=2), made_wishes(1, 3, 8, seed=2)))
PLAYED += list(zip(made_writings(1, 1, 4, seed=3, clauses=2), made_wishes(1, 2, 4, seed=4)))
PLAYED += list(zip(made_writings(2, 2, 3, seed=5, clauses=1), made_wishes(2, 2, 3, seed=6)))


def slow_shows(question, writing, wish, setting):
    """Return whether a setting shows the contrary of what a question asks, by what [20] to [22] say."""
    sight, words = slow_seen(writing, setting), wished_words(wish, setting)
    if question == 'ends':
        return not words and sight is not None
    if question == 'all':
        return not lets_forced(setting, sight, slow_forced(wish, setting))
    return bool(words) and (sight is None or any(not tells(word, sight) for word in words))


class Shadow:
    """What a desk should be, by plain lists."""

    def __init__(self, writing, wish):
        self.writing, self.wish = writing, wish
        self.changes = []
        self.answers = {}
        self.searches = 0
        self.dropped, self.stayed = [], []

    def copy(self):
        """Return an independent one in the same state."""
        twin = Shadow(self.writing, self.wish)
        twin.changes, twin.answers, twin.searches = list(self.changes), dict(self.answers), self.searches
        return twin

    def turn(self, writing, takes):
        """Hold another writing, and drop the answers that this asks for."""
        self.writing = writing
        for question, answer in list(self.answers.items()):
            if answer is None:
                drops = takes if question in ('ends', 'all') else not takes
            else:
                drops = not slow_shows(question, writing, self.wish, answer)
            if drops:
                del self.answers[question]
            (self.dropped if drops else self.stayed).append((question, answer is None, takes))

    def with_part(self, name, part):
        """Return the writing with another part in the place of one."""
        place = 2 + PARTS.index(name)
        return self.writing[:place] + (part,) + self.writing[place + 1:]

    def change(self, writing, takes):
        """Change the writing."""
        self.changes.append((self.writing, takes))
        self.turn(writing, takes)

    def undo(self):
        """Take the last change back."""
        writing, took = self.changes.pop()
        self.turn(writing, not took)


class Calls(unittest.TestCase):
    """Long lists of calls, on copies, too."""

    def check(self, desk, shadow):
        """Fail unless a desk is what it should be."""
        self.assertEqual(desk.writing, shadow.writing)
        self.assertEqual(desk.wish, shadow.wish)
        self.assertEqual([len(desk), desk.searches], [len(shadow.changes), shadow.searches])
        self.assertEqual(list(desk.kept().items()), sorted(shadow.answers.items()))

    def add(self, desk, shadow, picks):
        """Put some clause there, and fail unless the right thing is returned or raised."""
        name = picks.choice(PARTS)
        known = all_clauses(shadow.writing[1] * (2 if name == 'nexts' else 1), 3)
        clause = picks.choice(known)
        part = shadow.writing[2 + PARTS.index(name)]
        if clause in part or len(part) == 16:
            raises(self, InvalidClause, desk.add, name, clause)
        else:
            self.assertIsNone(desk.add(name, clause))
            shadow.change(shadow.with_part(name, part + (clause,)), False)

    def remove(self, desk, shadow, picks):
        """Take some clause away, and fail unless the right thing is returned or raised."""
        name = picks.choice(PARTS)
        part = shadow.writing[2 + PARTS.index(name)]
        index = picks.randrange(len(part) + 1)
        if index == len(part):
            raises(self, UnknownClause, desk.remove, name, index)
        else:
            self.assertIsNone(desk.remove(name, index))
            shadow.change(shadow.with_part(name, part[:index] + part[index + 1:]), True)

    def undo(self, desk, shadow, picks):
        """Take some changes back, and fail unless the right thing is returned or raised."""
        steps = picks.choice((1, 1, 2, 3))
        if steps > len(shadow.changes):
            raises(self, NothingToUndo, lambda: desk.undo(steps=steps))
        else:
            self.assertIsNone(desk.undo() if steps == 1 and picks.random() < 0.5 else desk.undo(steps=steps))
            for _ in range(steps):
                shadow.undo()

    def ask(self, desk, shadow, picks):
        """Ask something, and fail unless the answer is right."""
        question = picks.choice(('ends', 'all', 'sound'))
        found = desk.ask(question)
        if question not in shadow.answers:
            shadow.searches += 1
            shadow.answers[question] = SEARCHES[question](shadow.writing, shadow.wish)
        self.assertEqual(found, shadow.answers[question])
        if found is not None:
            # A setting that is kept may be another one than the least one.
            self.assertTrue(slow_shows(question, shadow.writing, shadow.wish, found))
            found.clear()

    def play(self, writing, wish, calls, seed):
        """Make so many calls; return the shadows."""
        picks = random.Random(seed)
        pairs = [(Desk(writing, wish), Shadow(writing, wish))]
        for _ in range(calls):
            desk, shadow = picks.choice(pairs)
            kinds = [self.add, self.remove, self.undo, self.ask, self.ask, self.ask]
            picks.choice(kinds)(desk, shadow, picks)
            if picks.random() < 0.05 and len(pairs) < 4:
                pairs.append((desk.copy(), shadow.copy()))
            for pair in pairs:
                self.check(*pair)
        return [shadow for _, shadow in pairs]

    def test_long_lists_of_calls(self):
        dropped, stayed, other = set(), set(), 0
        for number, (writing, wish) in enumerate(PLAYED):
            for shadow in self.play(writing, wish, 150, seed=number):
                dropped.update(shadow.dropped)
                stayed.update(shadow.stayed)
                for question, answer in shadow.answers.items():
                    other += answer != SEARCHES[question](shadow.writing, shadow.wish)
        # All that may be dropped was dropped, and all that may stay stayed.
        self.assertEqual(dropped, {('ends', True, True), ('all', True, True), ('sound', True, False), ('ends', False, False),
                                   ('all', False, False), ('sound', False, True)})
        self.assertEqual(stayed, {('ends', True, False), ('all', True, False), ('sound', True, True), ('ends', False, False),
                                  ('ends', False, True), ('all', False, False), ('all', False, True),
                                  ('sound', False, True), ('sound', False, False)})
        self.assertGreater(other, 0)


class Desks(unittest.TestCase):

    def test_document(self):
        desk = Desk(SHORT, WISH_ONE)
        self.assertEqual([desk.ask('ends'), desk.ask('sound'), desk.searches, desk.add('nexts', (-2, 4)), desk.kept()],
                         [[(True,), (None,), (True,)], None, 2, None, {}])
        self.assertEqual([desk.ask('ends'), desk.add('first', (1,)), desk.ask('ends'), desk.ask('sound'), desk.searches],
                         [None, None, None, [(None,)], 4])
        self.assertEqual([desk.undo(steps=2), desk.kept(), desk.writing == SHORT, len(desk)], [None, {}, True, 0])

    def test_at_first(self):
        desk = Desk(LADDER, WISH_ONE)
        self.assertEqual([desk.writing, desk.wish, len(desk), desk.searches, desk.kept()], [LADDER, WISH_ONE, 0, 0, {}])

    def test_changes(self):
        desk = Desk(SHORT, WISH_ONE)
        desk.add('nexts', (-2, 4))
        desk.add('last', (2,))
        desk.add('each', (-2, 1))
        self.assertEqual(desk.writing, (1, 2, (), ((-1, 2), (-2, 1)), ((-3, -2), (-2, 4)), ((2,),)))
        desk.remove('each', 0)
        desk.remove('nexts', 0)
        self.assertEqual(desk.writing, (1, 2, (), ((-2, 1),), ((-2, 4),), ((2,),)))
        self.assertEqual(len(desk), 5)
        # What was taken away comes back where it stood.
        desk.undo()
        self.assertEqual(desk.writing[4], ((-3, -2), (-2, 4)))
        desk.undo(steps=3)
        self.assertEqual([desk.writing, len(desk)], [(1, 2, (), ((-1, 2),), ((-3, -2), (-2, 4)), ()), 1])
        desk.add('first', (1,))
        desk.undo(steps=2)
        self.assertEqual([desk.writing, desk.wish, len(desk)], [SHORT, WISH_ONE, 0])

    def test_answers_are_kept(self):
        desk = Desk(SHORT, WISH_ONE)
        for question in ('sound', 'ends', 'all', 'ends', 'sound', 'all'):
            self.assertEqual(desk.ask(question), SEARCHES[question](SHORT, WISH_ONE))
        self.assertEqual(desk.searches, 3)
        self.assertEqual(list(desk.kept().items()), [('all', [(None,), (None,), (True,)]), ('ends', [(True,), (None,), (True,)]),
                                                     ('sound', None)])

    def test_a_kept_setting_need_not_be_the_least_one(self):
        # [(None,), (True,)] is too much, and still is, once [(None,)] is, too.
        desk = Desk(LADDER, WISH_COUNTER)
        self.assertEqual(desk.ask('sound'), [(None,), (True,)])
        desk.add('first', (1,))
        self.assertEqual(too_much(desk.writing, WISH_COUNTER), [(None,)])
        self.assertEqual([desk.ask('sound'), desk.kept(), desk.searches], [[(None,), (True,)], {'sound': [(None,), (True,)]}, 1])
        desk.remove('each', 0)
        self.assertEqual([desk.kept(), desk.ask('sound'), desk.searches], [{'sound': [(None,), (True,)]}, [(None,), (True,)], 1])
        desk.undo(steps=2)
        self.assertEqual([desk.ask('sound'), desk.searches], [[(None,), (True,)], 1])
        desk.remove('nexts', 1)
        self.assertEqual([desk.kept(), desk.ask('sound'), desk.searches], [{}, None, 2])

    def test_none_is_dropped_even_where_it_is_still_so(self):
        desk = Desk(LADDER, WISH_ONE)
        self.assertEqual([desk.ask('all'), desk.ask('ends'), desk.ask('sound')], [None] * 3)
        desk.add('each', (-2, 1))
        self.assertEqual(desk.kept(), {'all': None, 'ends': None})
        desk.undo()
        self.assertEqual([desk.kept(), desk.searches], [{}, 3])
        self.assertEqual([desk.ask('all'), desk.ask('ends'), desk.ask('sound'), desk.searches], [None] * 3 + [6])
        desk.remove('nexts', 1)
        self.assertEqual(desk.kept(), {'sound': None})
        desk.undo()
        self.assertEqual(desk.kept(), {})

    def test_each_change_taken_back_is_a_change_of_its_own(self):
        # Ahead of both changes the setting shows the contrary, between them it does not.
        desk = Desk(SHORT, WISH_ONE)
        desk.add('nexts', (-2, 4))
        desk.remove('nexts', 1)
        self.assertEqual([desk.writing, desk.ask('ends')], [SHORT, [(True,), (None,), (True,)]])
        twin = desk.copy()
        desk.undo(steps=2)
        self.assertEqual([desk.writing, desk.kept(), unseen_end(SHORT, WISH_ONE)], [SHORT, {}, [(True,), (None,), (True,)]])
        twin.undo()
        self.assertEqual(twin.kept(), {})
        # None to all three: one of both changes drops each one.
        desk = Desk(LADDER, WISH_ONE)
        desk.add('nexts', (-3, -1))
        desk.remove('nexts', 0)
        desk.undo(steps=1)
        self.assertEqual([desk.ask('all'), desk.ask('ends'), desk.ask('sound')], [None] * 3)
        desk.remove('nexts', 2)
        desk.undo(steps=2)
        self.assertEqual([desk.writing, desk.kept()], [LADDER, {}])

    def test_copies_are_independent(self):
        desk = Desk(SHORT, WISH_ONE)
        desk.ask('ends')
        desk.add('last', (2,))
        twin = desk.copy()
        self.assertIs(twin.__class__, Desk)
        self.assertEqual([twin.writing, twin.wish, len(twin), twin.searches, twin.kept()],
                         [desk.writing, desk.wish, 1, desk.searches, desk.kept()])
        desk.undo()
        desk.ask('sound')
        desk.add('nexts', (-2, 4))
        self.assertEqual([twin.writing, len(twin), twin.searches], [SHORT[:5] + (((2,),),), 1, 1])
        twin.undo()
        self.assertEqual([twin.writing, len(twin)], [SHORT, 0])
        twin.add('first', (1,))
        twin.ask('all')
        self.assertEqual([desk.writing[2], len(desk), desk.searches, 'all' in desk.kept()], [(), 1, 2, False])
        raises(self, NothingToUndo, lambda: twin.copy().undo(steps=2))

    def test_lists_are_new(self):
        desk = Desk(SHORT, WISH_ONE)
        first = desk.ask('ends')
        lists = [first, desk.ask('ends'), desk.kept()['ends'], desk.kept()['ends'], desk.copy().ask('ends')]
        self.assertEqual(len({id(thing) for thing in lists}), 5)
        for thing in lists:
            thing.clear()
        desk.kept().clear()
        desk.kept()['sound'] = None
        self.assertEqual([desk.ask('ends'), desk.kept()], [[(True,), (None,), (True,)], {'ends': [(True,), (None,), (True,)]}])
        twin = desk.copy()
        twin.ask('ends').append('more')
        self.assertEqual([desk.ask('ends'), desk.searches], [[(True,), (None,), (True,)], 1])

    def test_by_name(self):
        desk = Desk(wish=WISH_ONE, writing=SHORT)
        desk.add(clause=(-2, 4), part='nexts')
        self.assertIsNone(desk.ask(question='ends'))
        desk.remove(index=0, part='nexts')
        self.assertEqual([desk.writing[4], desk.undo(steps=1), desk.writing[4]], [((-2, 4),), None, ((-3, -2), (-2, 4))])


class Errors(unittest.TestCase):

    def desk(self):
        """Return a desk with changes and answers."""
        desk = Desk(SHORT, WISH_ONE)
        desk.add('last', (1, 2))
        desk.ask('ends')
        desk.ask('sound')
        return desk

    def refuses(self, error, desk, call, *arguments):
        """Fail unless a call raises just this error and changes nothing."""
        before = [desk.writing, desk.wish, len(desk), desk.searches, desk.kept()]
        raises(self, error, call, *arguments)
        self.assertEqual([desk.writing, desk.wish, len(desk), desk.searches, desk.kept()], before)

    def test_misfits(self):
        refuses_misfits(self, Desk)

    def test_no_clause(self):
        desk = self.desk()
        for part in ['', 'firsts', 'First', 'next', 'inputs', None, 0, 1, True, ('first',), ['first'], {'first': 1}]:
            for clause in ((1,), (1, 2), None):
                self.refuses(InvalidClause, desk, desk.add, part, clause)
        for part in PARTS:
            for clause in [(), (0,), (5,), (-5,), (2, 1), (1, 1), (-1, 1), (1, 2, 3, 4, 5), [1], (True,), (None,), ('1',), 1, None, '1',
                           ((1,),), (1, LONG), {1: 1}] + strange_objects():
                self.refuses(InvalidClause, desk, desk.add, part, clause)
                self.refuses(InvalidClause, desk, desk.add, clause, part)
        for part in ('first', 'each', 'last'):
            self.refuses(InvalidClause, desk, desk.add, part, (3,))
        desk.add('nexts', (3,))
        for part in strange_objects():
            if part != 'first':
                self.refuses(InvalidClause, desk, desk.add, part, (1,))

    def test_a_clause_that_stands_there(self):
        desk = Desk(LADDER, WISH_ONE)
        for part, clause in [('each', (-1, 2)), ('nexts', (-2, 4)), ('nexts', (-3, -2))]:
            self.refuses(InvalidClause, desk, desk.add, part, clause)
        desk.add('first', (-1, 2))
        self.refuses(InvalidClause, desk, desk.add, 'first', (-1, 2))
        desk.remove('first', 0)
        desk.add('first', (-1, 2))

    def test_seventeen_clauses(self):
        for part in PARTS:
            clauses = all_clauses(4, 2)
            desk = Desk((1, 4, (), (), (), ()), EVERY)
            for clause in clauses[:16]:
                desk.add(part, clause)
            self.refuses(InvalidClause, desk, desk.add, part, clauses[16])
            desk.remove(part, 3)
            desk.add(part, clauses[16])
            self.assertIs(is_writing(desk.writing), True)
            self.assertEqual(desk.writing[2 + PARTS.index(part)], tuple(clauses[:3] + clauses[4:17]))

    def test_unknown_clause(self):
        desk = self.desk()
        for part, index in [('first', 0), ('each', 1), ('nexts', 1), ('last', 1), ('last', -1), ('each', True), ('each', False),
                            ('each', None), ('each', '0'), ('each', (0,)), ('each', [0]), ('each', LONG), ('', 0), (None, 0),
                            (['each'], 0), (('each',), 0), (1, 0), ({}, {})]:
            self.refuses(UnknownClause, desk, desk.remove, part, index)
        for thing in strange_objects():
            if thing.__class__ is not int or thing != 0:
                self.refuses(UnknownClause, desk, desk.remove, 'each', thing)
            self.refuses(UnknownClause, desk, desk.remove, thing, 1)

    def test_steps(self):
        for desk in (self.desk(), Desk(SHORT, WISH_ONE)):
            for steps in [0, -1, -LONG, True, False, None, '1', 'a', (1,), [1], {1: 1}] + strange_objects():
                if steps.__class__ is not int or steps < 1:
                    self.refuses(InvalidNumber, desk, lambda: desk.undo(steps=steps))
            for steps in (2, 3, 300, LONG):
                self.refuses(NothingToUndo, desk, lambda: desk.undo(steps=steps))
        self.refuses(NothingToUndo, desk, desk.undo)
        with self.assertRaises(TypeError):
            desk.undo(1)

    def test_no_question(self):
        desk = self.desk()
        for question in ['', 'end', 'Ends', 'ends ', 'alls', 'right', 'sounds', None, True, 0, ('ends',), ['ends'], {'ends': 1}]:
            self.refuses(InvalidQuestion, desk, desk.ask, question)
        for question in strange_objects():
            self.refuses(InvalidQuestion, desk, desk.ask, question)

    def test_in_their_order(self):
        for writing, wish in itertools.product([None, LADDER], [None, WISH_ONE, WISH_TURNS]):
            if writing is None:
                raises(self, InvalidWriting, Desk, writing, wish)
            elif wish is None:
                raises(self, InvalidWish, Desk, writing, wish)
            elif wish == WISH_TURNS:
                raises(self, InvalidMatch, Desk, writing, wish)
        desk = Desk(LADDER, WISH_ONE)
        self.refuses(InvalidNumber, desk, lambda: desk.undo(steps=0))


if __name__ == '__main__':
    unittest.main()
