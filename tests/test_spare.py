"""Promise [24], and of [2] what belongs to it: spare clauses and menus."""

import itertools
import unittest

from followrows.alike import parting
from followrows.errors import InvalidMatch, InvalidMenu, InvalidWish, InvalidWriting, UnknownClause
from followrows.spare import least_additions, needless, with_all, without
from followrows.wishes import at_most
from tests.anything import LONG, leaves_alone, raises, strange_objects, with_place
from tests.reference import (AT_MOST_ONE, LADDER, NO_WISHES, NO_WRITINGS, PARTS, all_clauses, made_writings)
from tests.tables import (COUNTER, EVERY, FREE, HUNDREDS, HUNDREDS_TWO, KNOWN, KNOWN_TWO, NEVER, PARITY, SHORT, SPLIT,
                          TURNS, WISH_COUNTER, WISH_EVEN, WISH_NEAR, WISH_ONE, WISH_TURNS, sights, slow_all_table,
                          slow_seen)

FULL = (2, 3, tuple(all_clauses(3, 2)[:16]), tuple(all_clauses(3, 2)[2:18]), tuple(all_clauses(6, 2)[:16]), ())
WITH_ALL_PARTS = (1, 2, ((1, 2), (-2,)), ((-1, 2), (-2, 1), (2,)), ((-2, 4), (-3, -2)), ((1,), (-2, -1)))
MENU = [('each', (-1, 3)), ('nexts', (-4, -2)), ('each', (-3, 1))]


def indexes(many):
    """Return all ascending lists of different indexes below a number, ascending."""
    found = [list(chosen) for length in range(many + 1) for chosen in itertools.combinations(range(many), length)]
    return sorted(found)


def put_in(writing, menu):
    """Return a writing with the clauses of a menu."""
    parts = [writing[2 + place] + tuple(clause for part, clause in menu if part == name)
             for place, name in enumerate(PARTS)]
    return writing[:2] + tuple(parts)


def slow_additions(writing, wish, menu):
    """Return what least_additions should return, going through all lists of indexes."""
    seen = [chosen for chosen in indexes(len(menu))
            if slow_all_table(put_in(writing, [menu[index] for index in chosen]), wish) is not None]
    return [chosen for chosen in seen
            if not any([index for index in chosen if index != out] in seen for out in chosen)]


def no_menus():
    """Return new objects that are no menu of LADDER."""
    good = ('each', (-2, 1))
    clauses = [('each', clause) for clause in all_clauses(2, 1)]
    return [
        clauses + [good], [good, good], [('each', (-2, 1)), ('first', (1,)), ('each', (-2, 1))],
        [('each', (-1, 2))], [('nexts', (-2, 4))], [('nexts', (-3, -2))], [good, ('nexts', (-3, -2))],
        [('each', (1, 3))], [('each', (3,))], [('first', (-3,))], [('last', (1, 4))], [('nexts', (5,))],
        [('nexts', (-5, 1))], [('each', (1, -2))], [('each', (1, -1))], [('each', (1, 1))], [('each', ())], [('each', (0,))],
        [('each', (True,))], [('each', [1])], [('each', 1)], [('each', None)], [('each', 'a')], [('each', ((1,),))],
        [('each', (1, 2, 3, 4))], [('nexts', (1, 2, 3, 4, 5))],
        [('none', (1,))], [('', (1,))], [('Each', (1,))], [('inputs', (1,))], [(None, (1,))], [(1, (1,))], [(3, (1,))],
        [(('each',), (1,))], [(['each'], (1,))], [((), (1,))], [({}, (1,))],
        [['each', (1,)]], [('each',)], [('each', (1,), (1,))], [('each', (1,), 0)], [()], ['each'], [(1,)], [None], [[]],
        (good,), (), {}, {'each': (1,)}, {good: True}, good, 'each', None, 0, 1, True, False, [good, None], [good, [good]],
    ]


class Without(unittest.TestCase):

    def test_document(self):
        self.assertEqual(without(LADDER, 'nexts', 0), SHORT)

    def test_each_part_and_index(self):
        for writing in KNOWN + KNOWN_TWO + [WITH_ALL_PARTS, FULL, HUNDREDS]:
            for place, name in enumerate(PARTS):
                part = writing[2 + place]
                for index in range(len(part)):
                    expected = list(writing)
                    expected[2 + place] = part[:index] + part[index + 1:]
                    found = leaves_alone(self, without, writing, name, index)
                    self.assertEqual(repr(found), repr(tuple(expected)))

    def test_first_and_last_index(self):
        self.assertEqual(without(WITH_ALL_PARTS, 'each', 0)[3], ((-2, 1), (2,)))
        self.assertEqual(without(WITH_ALL_PARTS, 'each', 2)[3], ((-1, 2), (-2, 1)))
        self.assertEqual(without(WITH_ALL_PARTS, 'first', 1)[2], ((1, 2),))
        self.assertEqual(without(WITH_ALL_PARTS, 'last', 0)[5], ((-2, -1),))

    def test_no_such_clause(self):
        for index in (-1, -2, 3, 4, 16, LONG, -LONG, True, False, None, '0', '', [0], (0,), {}, {0: 0}, []):
            raises(self, UnknownClause, without, WITH_ALL_PARTS, 'each', index)
        for name, part in zip(PARTS, WITH_ALL_PARTS[2:]):
            raises(self, UnknownClause, without, WITH_ALL_PARTS, name, len(part))
            raises(self, UnknownClause, without, FREE, name, 0)
        for thing in strange_objects():
            if thing.__class__ is not int or thing != 0:
                raises(self, UnknownClause, without, LADDER, 'each', thing)
            if thing != 'first':
                raises(self, UnknownClause, without, WITH_ALL_PARTS, thing, 0)
                raises(self, UnknownClause, without, WITH_ALL_PARTS, thing, thing)

    def test_no_such_part(self):
        for name in ('none', '', 'inputs', 'size', 'First', 'nexts ', 'next', 2, 0, None, True, ('first',), ['first'], {}):
            raises(self, UnknownClause, without, WITH_ALL_PARTS, name, 0)
            raises(self, UnknownClause, without, WITH_ALL_PARTS, name, None)

    def test_by_name(self):
        self.assertEqual(without(index=0, part='nexts', writing=LADDER), SHORT)


class Needless(unittest.TestCase):

    def test_document(self):
        self.assertEqual(needless(LADDER), [])

    def test_against_what_is_seen_without_each_clause(self):
        for inputs, size, most in [(1, 1, 5), (1, 2, 4), (2, 2, 2), (1, 3, 4)]:
            for writing in made_writings(inputs, size, 10, seed=70 + size, clauses=4):
                self.check(writing, most)
        for writing in KNOWN + [WITH_ALL_PARTS]:
            self.check(writing, 4)
        for writing in KNOWN_TWO:
            self.check(writing, 2)

    def check(self, writing, most):
        """Fail unless just those clauses are needless without which as much is seen."""
        found = leaves_alone(self, needless, writing)
        places = [(name, index) for name, part in zip(PARTS, writing[2:]) for index in range(len(part))]
        self.assertEqual(found, [place for place in places if place in found])
        seen = sights(writing, most)
        for name, index in places:
            place = 2 + PARTS.index(name)
            less = writing[:place] + (writing[place][:index] + writing[place][index + 1:],) + writing[place + 1:]
            alike = seen == sights(less, most)
            if alike and (name, index) not in found:
                setting = parting(writing, less)
                self.assertGreater(len(setting), most)
                self.assertNotEqual(slow_seen(writing, setting), slow_seen(less, setting))
            else:
                self.assertIs((name, index) in found, alike, (writing, name, index))

    def test_clauses_that_follow_from_others(self):
        # What both clauses of nexts tell is told by a third one, too.
        self.assertEqual(needless(LADDER[:4] + (LADDER[4] + ((-3, -1),), ())), [('nexts', 2)])
        self.assertEqual(needless(LADDER[:4] + (((-3, -1),) + LADDER[4], ())), [('nexts', 0)])
        self.assertEqual(needless((1, 1, ((-1,),), ((-1,),), (), ((-1,),))), [('first', 0), ('last', 0)])
        # Any one of them can be left out, but not two.
        self.assertEqual(needless((1, 1, ((1,),), (), ((1,), (2,)), ((1,),))), [
            ('first', 0), ('nexts', 0), ('nexts', 1), ('last', 0)])
        self.assertEqual(needless((1, 1, ((1,),), (), ((2,),), ())), [])

    def test_parts_in_order(self):
        writing = (1, 3, ((2,), (-3,)), ((2, 3), (-2, 3)), ((2,), (6,)), ((3,),))
        self.check(writing, 4)
        self.assertEqual(needless((1, 2, ((2,),), ((2,),), ((2,), (4,)), ((2,),))), [
            ('first', 0), ('each', 0), ('nexts', 0), ('nexts', 1), ('last', 0)])

    def test_hundreds_of_standings(self):
        self.assertEqual(needless(HUNDREDS)[:3], [('first', 0), ('first', 1), ('first', 2)])
        self.check(HUNDREDS, 3)
        self.check(HUNDREDS_TWO, 2)

    def test_new_lists(self):
        writing = (1, 1, ((-1,),), ((-1,),), (), ())
        one, other = needless(writing), needless(writing)
        self.assertIsNot(one, other)
        one.clear()
        self.assertEqual(needless(writing), other)
        self.assertEqual(other, [('first', 0)])

    def test_by_name(self):
        self.assertEqual(needless(writing=FREE), [])


class WithAll(unittest.TestCase):

    def test_clauses_for_several_parts_in_any_order(self):
        menu = [('last', (2,)), ('nexts', (1, 4)), ('first', (-2, 1)), ('nexts', (-4, 1))]
        expected = (1, 2, ((-2, 1),), ((-1, 2),), ((-2, 4), (-3, -2), (1, 4), (-4, 1)), ((2,),))
        self.assertEqual(leaves_alone(self, with_all, LADDER, menu), expected)
        for order in itertools.permutations(menu):
            self.assertEqual(leaves_alone(self, with_all, LADDER, list(order)), put_in(LADDER, order))
        self.assertNotEqual(with_all(LADDER, menu), with_all(LADDER, menu[::-1]))

    def test_each_part(self):
        for writing in KNOWN + KNOWN_TWO + [WITH_ALL_PARTS]:
            for name, clauses in itertools.product(PARTS, [[(1,)], [(-1,), (1,)], [(1,), (-1,)]]):
                menu = [(name, clause) for clause in clauses]
                if any(clause in writing[2 + PARTS.index(name)] for clause in clauses):
                    raises(self, InvalidMenu, with_all, writing, menu)
                else:
                    self.assertEqual(with_all(writing, menu), put_in(writing, menu))

    def test_the_empty_menu(self):
        for writing in KNOWN + KNOWN_TWO + [WITH_ALL_PARTS, FULL]:
            self.assertEqual(leaves_alone(self, with_all, writing, []), writing)

    def test_the_same_clause_for_several_parts(self):
        menu = [(name, (1,)) for name in PARTS]
        self.assertEqual(with_all(FREE, menu), (1, 1, ((1,),), ((1,),), ((1,),), ((1,),)))
        self.assertEqual(with_all((1, 1, ((1,),), (), (), ()), menu[1:]), (1, 1, ((1,),), ((1,),), ((1,),), ((1,),)))

    def test_up_to_four(self):
        clauses = all_clauses(2, 2)
        writing = (1, 2, (), (), (), ())
        for many in range(len(clauses) + 1):
            menu = [('each', clause) for clause in clauses[:many]]
            if many <= 4:
                self.assertEqual(with_all(writing, menu)[3], tuple(clauses[:many]))
            else:
                raises(self, InvalidMenu, with_all, writing, menu)

    def test_up_to_sixteen_of_a_part(self):
        clauses = all_clauses(3, 3)
        for many in range(10, 17):
            writing = (1, 3, (), tuple(clauses[:many]), (), ())
            for more in range(5):
                menu = [('each', clause) for clause in clauses[many:many + more]]
                if many + more > 16:
                    raises(self, InvalidMenu, with_all, writing, menu)
                else:
                    self.assertEqual(with_all(writing, menu)[3], tuple(clauses[:many + more]))
                self.assertEqual(len(with_all(writing, [('last', clause) for _, clause in menu])[5]), more)

    def test_by_name(self):
        self.assertEqual(with_all(menu=[('each', (1,))], writing=FREE), (1, 1, (), ((1,),), (), ()))


class LeastAdditions(unittest.TestCase):

    def test_document(self):
        self.assertEqual(leaves_alone(self, least_additions, SPLIT, at_most(1), MENU), [[1]])

    def test_against_going_through_all_lists(self):
        pools = [(FREE, WISH_NEAR, [(0, (-1,)), (1, (-1,)), (2, (-2, -1)), (2, (-2,)), (3, (-1,)), (2, (-1,))]),
                 (SHORT, WISH_ONE, [(2, (-2, 4)), (2, (-4, -2)), (1, (-1,)), (0, (2,)), (1, (2,)), (2, (-3, -1))]),
                 ((1, 2, (), (), (), ()), WISH_ONE, [(1, (-1, 2)), (2, (-2, 4)), (2, (-3, -2)), (2, (-3, -1)), (1, (-1,))]),
                 ((1, 2, (), (), (), ()), WISH_EVEN, [(0, (1,)), (1, (-1,)), (2, (-1,)), (3, (-1,))]),
                 (SPLIT, WISH_ONE, [(2, (-4, -2)), (1, (-1, 3)), (1, (-3, 1)), (2, (-3, 6)), (2, (-6, -4))]),
                 (TURNS[:2] + ((), ((1, 2),), TURNS[4], ()), WISH_TURNS, [(1, (-2, -1)), (2, (-4,)), (0, (1,)), (3, (-1,))])]
        lengths = []
        for writing, wish, pool in pools:
            choices = [(PARTS[place], clause) for place, clause in pool]
            for many in range(5):
                for menu in itertools.islice(itertools.permutations(choices, many), 0, None, 1 + 7 * (many > 2)):
                    found = leaves_alone(self, least_additions, writing, wish, list(menu))
                    self.assertEqual(found, slow_additions(writing, wish, menu), (writing, wish, menu))
                    lengths.append([len(chosen) for chosen in found])
        for expected in ([], [1], [2], [3], [1, 1], [2, 1], [1, 2]):
            self.assertIn(expected, lengths)

    def test_all_is_seen_already(self):
        for writing, wish in [(LADDER, WISH_ONE), (COUNTER, WISH_COUNTER), (PARITY, WISH_EVEN)]:
            for menu in ([], [('each', (1,))], [('first', (1,)), ('nexts', (1, 3)), ('nexts', (2, 3)), ('last', (-2, 1))]):
                self.assertEqual(least_additions(writing, wish, menu), [[]])

    def test_no_clauses_help(self):
        self.assertEqual(least_additions(FREE, WISH_ONE, []), [])
        self.assertEqual(least_additions(FREE, WISH_ONE, [('nexts', (-2, -1)), ('first', (1, )), ('last', (1,))]), [])

    def test_ascending(self):
        # Any one of these clauses makes all dead ends, and so do two others together.
        menu = [('first', (2,)), ('last', (1,)), ('each', (-2,)), ('last', (-1,))]
        wish = (1, ((0, 0),), (False,))
        writing = (1, 2, (), (), (), ((-2, -1), (-1, 2)))
        self.assertEqual(least_additions(writing, wish, menu), slow_additions(writing, wish, menu))
        found = least_additions((1, 2, (), (), (), ()), wish, [('first', (1,)), ('first', (-1,)), ('first', (2,)),
                                                               ('first', (-2,))])
        self.assertEqual(found, [[0, 1], [2, 3]])
        found = least_additions((1, 2, ((-1,),), (), (), ()), wish, [('first', (2,)), ('each', (1,)), ('first', (-2,)),
                                                                     ('first', (1,))])
        self.assertEqual(found, [[0, 2], [1], [3]])

    def test_new_lists(self):
        for arguments in [(SPLIT, WISH_ONE, MENU), (LADDER, WISH_ONE, []), (FREE, WISH_ONE, [])]:
            one, other = least_additions(*arguments), least_additions(*arguments)
            lists = [one, other] + one + other
            self.assertEqual(len({id(thing) for thing in lists}), len(lists))
            for chosen in one:
                chosen.append('more')
            one.append('more')
            self.assertEqual(least_additions(*arguments), other)

    def test_by_name(self):
        self.assertEqual(least_additions(menu=MENU, wish=WISH_ONE, writing=SPLIT), [[1]])


class Errors(unittest.TestCase):

    def test_no_writing(self):
        for thing in strange_objects() + NO_WRITINGS:
            raises(self, InvalidWriting, without, thing, 'each', 0)
            raises(self, InvalidWriting, needless, thing)
            raises(self, InvalidWriting, with_all, thing, [])
            raises(self, InvalidWriting, least_additions, thing, AT_MOST_ONE, [])

    def test_no_wish(self):
        for thing in strange_objects() + NO_WISHES:
            raises(self, InvalidWish, least_additions, LADDER, thing, [])

    def test_no_menu(self):
        things = no_menus() + [thing for thing in strange_objects() if thing != []]
        for thing in things:
            raises(self, InvalidMenu, with_all, LADDER, thing)
            raises(self, InvalidMenu, least_additions, LADDER, WISH_ONE, thing)
        for thing in strange_objects():
            for menu in ([thing], [('each', (-2, 1)), thing], [('each', thing)], [(thing, (1,))], [('each', (thing,))],
                         [('each', (1,), thing)], [(thing, thing)], (thing,)):
                if menu not in ([('each', (-1,))], [('first', (1,))]):
                    raises(self, InvalidMenu, with_all, LADDER, menu)

    def test_menus_hang_on_the_writing(self):
        for clause in ((-2, 4), (-3, -2), (-2, 1)):
            writing = with_place(LADDER, 4, ((-2, 4), (-3, -2)))
            if clause in writing[4]:
                raises(self, InvalidMenu, with_all, writing, [('nexts', clause)])
            else:
                self.assertEqual(with_all(writing, [('nexts', clause)])[4], writing[4] + (clause,))

    def test_in_their_order(self):
        for writing, wish, menu in itertools.product([None, NEVER, LADDER], [None, EVERY, WISH_TURNS], [None, [], ()]):
            if writing is None:
                raises(self, InvalidWriting, least_additions, writing, wish, menu)
            elif wish is None:
                raises(self, InvalidWish, least_additions, writing, wish, menu)
            elif wish == WISH_TURNS:
                raises(self, InvalidMatch, least_additions, writing, wish, menu)
            elif menu != []:
                raises(self, InvalidMenu, least_additions, writing, wish, menu)
        raises(self, InvalidWriting, with_all, None, None)
        raises(self, InvalidWriting, without, None, None, None)


if __name__ == '__main__':
    unittest.main()
