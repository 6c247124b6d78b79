"""Promise [12], and of [2] to [4] what it rests on: clauses and writings."""

import itertools
import unittest

from followrows.clauses import cost, flat, is_clause, is_writing, writing_of
from followrows.errors import InvalidNumber, InvalidWriting
from tests.anything import LONG, leaves_alone, raises, strange_objects, with_place

EMPTY = (1, 1, (), (), (), ())
LADDER = (1, 2, (), ((-1, 2),), ((-2, 4), (-3, -2)), ())
FULL = (
    2, 3,
    ((-3, -1), (2,)),
    ((-2, 1), (-1, 2, 3), (3,)),
    ((-6, 1), (-4, 2, 5), (-6, -3, -1, 5), (4,)),
    ((-3, -2, 1), (1, 3)),
)
WRITINGS = [EMPTY, LADDER, FULL]
# All clauses of two signs, and with them enough of three signs for a part that is too long.
CLAUSES = [(-2,), (-1,), (1,), (2,), (-2, -1), (-2, 1), (-1, 2), (1, 2)]
CLAUSES_OF_THREE = CLAUSES + [(-3,), (3,), (-3, -1), (-3, 1), (-3, -2), (-3, 2), (-1, 3), (1, 3), (2, 3)]
NO_NUMBERS = [thing for thing in strange_objects() if thing.__class__ is not int or thing < 1]


def expected_flat(writing, many):
    """Return the clauses of a row, told by columns and signs one by one."""
    _, size, first, each, nexts, last = writing
    at = [(first, 0)]
    at += [(each, column) for column in range(many)]
    at += [(nexts, column) for column in range(many - 1)]
    at += [(last, many - 1)]
    clauses = []
    for part, column in at:
        for clause in part:
            literals = []
            for literal in clause:
                back, sign = divmod(abs(literal) - 1, size)
                number = (column + back) * size + sign + 1
                literals.append(number if literal > 0 else -number)
            clauses.append(tuple(literals))
    return clauses


class IsClause(unittest.TestCase):

    def test_ordinary(self):
        for size, clause in [(1, (1,)), (1, (-1,)), (2, (-2, 1)), (2, (-1, 2)), (2, (-2, -1)), (2, (1, 2)),
                             (3, (-3, -1, 2)), (4, (-4, 1, 2)), (8, (-8, -7, 1, 2))]:
            with self.subTest(clause):
                self.assertIs(is_clause(size, clause), True)

    def test_one_to_four_literals(self):
        self.assertIs(is_clause(8, ()), False)
        for many in range(1, 9):
            with self.subTest(many):
                self.assertIs(is_clause(8, tuple(range(1, many + 1))), many <= 4)
                self.assertIs(is_clause(8, tuple(range(-many, 0))), many <= 4)

    def test_not_ascending(self):
        for clause in [(1, -2), (2, 1), (-1, -2), (1, 3, 2), (-3, 2, 1), (-1, -3, 2), (1, 2, 4, 3)]:
            with self.subTest(clause):
                self.assertIs(is_clause(4, clause), False)

    def test_a_sign_twice(self):
        for clause in [(-1, 1), (1, 1), (-2, -2), (-2, 1, 2), (-3, -1, 1), (1, 2, 2), (-4, -2, 2, 3)]:
            with self.subTest(clause):
                self.assertIs(is_clause(4, clause), False)

    def test_zero(self):
        for clause in [(0,), (0, 1), (-1, 0), (-1, 0, 2)]:
            with self.subTest(clause):
                self.assertIs(is_clause(2, clause), False)

    def test_signs_beyond_the_last_one(self):
        for size in range(1, 9):
            with self.subTest(size):
                self.assertIs(is_clause(size, (size,)), True)
                self.assertIs(is_clause(size, (-size,)), True)
                self.assertIs(is_clause(size, (size + 1,)), False)
                self.assertIs(is_clause(size, (-size - 1,)), False)
                self.assertIs(is_clause(size, (-size - 1, 1)), False)
                self.assertIs(is_clause(size, (1, size + 1)), False)
                self.assertIs(is_clause(size, (LONG,)), False)
                self.assertIs(is_clause(size, (-LONG, 1)), False)

    def test_all_short_tuples_of_two_signs(self):
        for many in range(4):
            for literals in itertools.product(range(-3, 4), repeat=many):
                with self.subTest(literals):
                    self.assertIs(is_clause(2, literals), literals in CLAUSES)

    def test_bools_and_lists(self):
        for thing in [(True,), (False,), (True, 2), (-2, True), [1], [-2, 1], [(1,)], ((1,),), (1, None), (1, '2')]:
            with self.subTest(thing):
                self.assertIs(is_clause(2, thing), False)

    def test_strange_objects(self):
        for size in (1, 4, 8):
            for thing in strange_objects():
                self.assertIs(leaves_alone(self, is_clause, size, thing), False)
                for clause in [(1,), (-1, 2), (-4, -3, 1, 2)]:
                    for place in range(len(clause)):
                        if thing.__class__ is int and 1 <= abs(thing) <= size:
                            continue
                        self.assertIs(is_clause(size, with_place(clause, place, thing)), False)

    def test_by_name(self):
        self.assertIs(is_clause(thing=(-2, 1), size=2), True)
        self.assertIs(is_clause(thing=(-2, 1), size=1), False)


class IsWriting(unittest.TestCase):

    def test_ordinary(self):
        for writing in WRITINGS:
            with self.subTest(writing):
                self.assertIs(leaves_alone(self, is_writing, writing), True)

    def test_inputs_and_sizes(self):
        for inputs in range(-1, 7):
            for size in range(-1, 7):
                with self.subTest(inputs=inputs, size=size):
                    good = inputs in (1, 2) and inputs <= size <= 4
                    self.assertIs(is_writing((inputs, size, (), (), (), ())), good)

    def test_very_large_numbers(self):
        for inputs, size in [(1, LONG), (LONG, LONG), (LONG, 4), (-LONG, 4), (1, -LONG)]:
            self.assertIs(is_writing((inputs, size, (), (), (), ())), False)

    def test_bools_for_numbers(self):
        self.assertIs(is_writing((True, 2, (), (), (), ())), False)
        self.assertIs(is_writing((1, True, (), (), (), ())), False)
        self.assertIs(is_writing((True, True, (), (), (), ())), False)

    def test_sixteen_clauses_in_a_part(self):
        for place in range(2, 6):
            for many in (15, 16, 17):
                with self.subTest(place=place, many=many):
                    writing = with_place((1, 3, (), (), (), ()), place, tuple(CLAUSES_OF_THREE[:many]))
                    self.assertEqual(len(set(writing[place])), many)
                    self.assertIs(is_writing(writing), many <= 16)

    def test_a_clause_twice(self):
        for place in range(2, 6):
            for part in [((1,), (1,)), ((-2, 1), (1,), (-2, 1)), ((1,), (2,), (-1, 2), (2,))]:
                with self.subTest(place=place, part=part):
                    self.assertIs(is_writing(with_place((1, 2, (), (), (), ()), place, part)), False)

    def test_a_clause_in_several_parts(self):
        self.assertIs(is_writing((1, 1, ((1,),), ((1,),), ((1,),), ((1,),))), True)

    def test_nexts_has_twice_as_many_signs(self):
        for size in range(1, 5):
            for literal in range(-10, 11):
                for place in range(2, 6):
                    with self.subTest(size=size, literal=literal, place=place):
                        most = 2 * size if place == 4 else size
                        writing = with_place((1, size, (), (), (), ()), place, ((literal,),))
                        self.assertIs(is_writing(writing), 1 <= abs(literal) <= most)

    def test_a_wrong_clause_among_right_ones(self):
        for place in range(2, 6):
            for clause in [(), (0,), (2, 1), (-1, 1), (True,), [1], None, 1, (1, 2, 3, 4, 5), (9,), ((1,),)]:
                for part in [(clause,), (clause, (1,)), ((1,), clause), ((1,), clause, (2,))]:
                    with self.subTest(place=place, part=part):
                        self.assertIs(is_writing(with_place((1, 4, (), (), (), ()), place, part)), False)

    def test_lists_for_tuples(self):
        self.assertIs(is_writing(list(LADDER)), False)
        for place in range(2, 6):
            self.assertIs(is_writing(with_place(FULL, place, list(FULL[place]))), False)
            lists = tuple(list(clause) for clause in FULL[place])
            self.assertIs(is_writing(with_place(FULL, place, lists)), False)
            self.assertIs(is_writing(with_place(EMPTY, place, [])), False)

    def test_too_few_and_too_many_places(self):
        for many in range(10):
            thing = (1, 2, (), (), (), (), (), (), ())[:many]
            self.assertIs(is_writing(thing), many == 6)

    def test_strange_objects(self):
        for thing in strange_objects():
            self.assertIs(leaves_alone(self, is_writing, thing), False)
            self.assertIs(is_writing((thing,) * 6), False)
            for writing in WRITINGS:
                for place in range(6):
                    self.assertIs(leaves_alone(self, is_writing, with_place(writing, place, thing)), False)
            for place in range(2, 6):
                self.assertIs(is_writing(with_place(FULL, place, (thing,))), False)
                self.assertIs(is_writing(with_place(FULL, place, FULL[place] + (thing,))), False)

    def test_by_name(self):
        self.assertIs(is_writing(thing=LADDER), True)


class WritingOf(unittest.TestCase):

    def test_by_position(self):
        for writing in WRITINGS:
            with self.subTest(writing):
                self.assertEqual(writing_of(*writing), writing)

    def test_by_name(self):
        inputs, size, first, each, nexts, last = FULL
        made = writing_of(last=last, nexts=nexts, each=each, first=first, size=size, inputs=inputs)
        self.assertEqual(made, FULL)

    def test_parts_left_out(self):
        self.assertEqual(writing_of(1, 1), EMPTY)
        self.assertEqual(writing_of(2, 4), (2, 4, (), (), (), ()))
        clauses = ((-2, 1), (2,))
        for place, name in enumerate(['first', 'each', 'nexts', 'last'], 2):
            with self.subTest(name):
                self.assertEqual(writing_of(1, 2, **{name: clauses}),
                                 with_place((1, 2, (), (), (), ()), place, clauses))
        self.assertEqual(writing_of(1, 2, ((1,),), ((2,),)), (1, 2, ((1,),), ((2,),), (), ()))

    def test_lists_and_tuples_mixed(self):
        made = writing_of(2, 3, [[-3, -1], (2,)], ([-2, 1], [-1, 2, 3], (3,)),
                          [(-6, 1), (-4, 2, 5), [-6, -3, -1, 5], [4]], [(-3, -2, 1), [1, 3]])
        self.assertEqual(repr(made), repr(FULL))
        self.assertEqual(repr(writing_of(1, 1, [], (), [], ())), repr(EMPTY))

    def test_result_is_a_writing(self):
        self.assertIs(is_writing(writing_of(1, 2, [[1]], [[-1, 2]], [[-4, 1]], [[2]])), True)

    def test_order_is_kept(self):
        for clauses in itertools.permutations([(-2, 1), (-1, 2), (1,), (-2,)]):
            for kind in (list, tuple):
                part = kind(kind(clause) for clause in clauses)
                made = writing_of(1, 2, part, part, part, part)
                self.assertEqual(made, (1, 2, clauses, clauses, clauses, clauses))

    def test_clauses_are_not_put_in_order(self):
        for clause in [[1, -2], (1, -2), [2, 1], (2, 1)]:
            raises(self, InvalidWriting, writing_of, 1, 2, [clause])

    def test_no_writing(self):
        for arguments in [(0, 1), (3, 4), (2, 1), (1, 0), (1, 5), (True, 2), (1, True), (1, 2, [[0]]), (1, 2, [[1, 1]]),
                          (1, 2, [[-1, 1]]), (1, 2, [[3]]), (1, 2, [[1], (1,)]), (1, 2, [[]]), (1, 2, [1]),
                          (1, 2, (), [[3]]), (1, 2, (), (), [[5]]), (1, 2, (), (), (), [[3]]), (1, 2, [[True]]),
                          (1, 3, CLAUSES_OF_THREE), (1, 4, [[1, 2, 3, 4, 5]]), (1, 2, [[[1]]]), (1, 2, [[(1,)]])]:
            with self.subTest(arguments):
                raises(self, InvalidWriting, writing_of, *arguments)

    def test_sixteen_clauses(self):
        made = writing_of(1, 3, CLAUSES_OF_THREE[:16])
        self.assertEqual(made, (1, 3, tuple(CLAUSES_OF_THREE[:16]), (), (), ()))

    def test_strange_objects(self):
        for thing in strange_objects():
            for place in range(6):
                if place < 2 or thing != []:
                    raises(self, InvalidWriting, writing_of, *with_place(FULL, place, thing))
            for place in range(2, 6):
                if thing != [1]:
                    raises(self, InvalidWriting, writing_of, *with_place(FULL, place, [thing]))
                    raises(self, InvalidWriting, writing_of, *with_place(FULL, place, ((2,), thing)))
                if thing.__class__ is not int or not 1 <= abs(thing) <= 6:
                    raises(self, InvalidWriting, writing_of, *with_place(FULL, place, [[thing]]))
                    raises(self, InvalidWriting, writing_of, *with_place(FULL, place, [(thing,)]))

    def test_arguments_stay(self):
        made = leaves_alone(self, writing_of, 1, 2, [[1], (2,)], [[-1, 2]], [(-2, 4), [-3, -2]], [])
        self.assertEqual(made, (1, 2, ((1,), (2,)), ((-1, 2),), ((-2, 4), (-3, -2)), ()))

    def test_writing_does_not_change_with_the_lists(self):
        clause, part = [-1, 2], [[1]]
        part.append(clause)
        made = writing_of(1, 2, part)
        clause.append(3)
        part.append([2])
        self.assertEqual(made, (1, 2, ((1,), (-1, 2)), (), (), ()))


class Flat(unittest.TestCase):

    def test_one_column(self):
        self.assertEqual(flat(EMPTY, 1), [])
        self.assertEqual(flat(LADDER, 1), [(-1, 2)])
        self.assertEqual(flat(FULL, 1), [(-3, -1), (2,), (-2, 1), (-1, 2, 3), (3,), (-3, -2, 1), (1, 3)])

    def test_two_columns(self):
        self.assertEqual(flat(LADDER, 2), [(-1, 2), (-3, 4), (-2, 4), (-3, -2)])
        self.assertEqual(flat(FULL, 2), [
            (-3, -1), (2,),
            (-2, 1), (-1, 2, 3), (3,), (-5, 4), (-4, 5, 6), (6,),
            (-6, 1), (-4, 2, 5), (-6, -3, -1, 5), (4,),
            (-6, -5, 4), (4, 6),
        ])

    def test_three_columns(self):
        self.assertEqual(flat(LADDER, 3),
                         [(-1, 2), (-3, 4), (-5, 6), (-2, 4), (-3, -2), (-4, 6), (-5, -4)])

    def test_many_columns(self):
        for writing in WRITINGS:
            for many in (1, 2, 3, 7, 299, 300):
                with self.subTest(writing=writing, many=many):
                    self.assertEqual(leaves_alone(self, flat, writing, many), expected_flat(writing, many))

    def test_three_hundred_columns(self):
        clauses = flat(LADDER, 300)
        self.assertEqual(len(clauses), 300 + 2 * 299)
        self.assertEqual([clauses[299], clauses[300], clauses[-1]], [(-599, 600), (-2, 4), (-599, -598)])

    def test_more_columns_raise_no_error(self):
        self.assertIs(flat(LADDER, 301).__class__, list)

    def test_sizes(self):
        for size in (1, 2, 3, 4):
            writing = (1, size, ((size,),), ((-size,),), ((-2 * size, 1),), ((1,),))
            self.assertEqual(flat(writing, 2), [(size,), (-size,), (-2 * size,), (-2 * size, 1), (size + 1,)])

    def test_a_new_list_at_each_call(self):
        for writing, many in [(EMPTY, 1), (LADDER, 1), (LADDER, 2), (FULL, 3)]:
            one, other = flat(writing, many), flat(writing, many)
            self.assertIsNot(one, other)
            one.append((1,))
            self.assertEqual(other, flat(writing, many))

    def test_kinds(self):
        clauses = flat(FULL, 2)
        self.assertIs(clauses.__class__, list)
        self.assertEqual([clause.__class__ for clause in clauses], [tuple] * len(clauses))

    def test_by_name(self):
        self.assertEqual(flat(many=2, writing=LADDER), flat(LADDER, 2))


class Cost(unittest.TestCase):

    def test_one_two_and_three_hundred_columns(self):
        self.assertEqual([cost(EMPTY, 1), cost(EMPTY, 300)], [(1, 0), (300, 0)])
        self.assertEqual([cost(LADDER, 1), cost(LADDER, 2), cost(LADDER, 300)], [(2, 1), (4, 4), (600, 898)])
        self.assertEqual([cost(FULL, 1), cost(FULL, 2), cost(FULL, 300)], [(3, 7), (6, 14), (900, 2100)])

    def test_as_flat_tells(self):
        for writing in WRITINGS:
            for many in (1, 2, 3, 50, 300):
                with self.subTest(writing=writing, many=many):
                    told = leaves_alone(self, cost, writing, many)
                    self.assertEqual(told, (many * writing[1], len(flat(writing, many))))
                    self.assertIs(told.__class__, tuple)

    def test_numbers_of_forty_digits(self):
        self.assertEqual(cost(LADDER, LONG), (
            19999999999999999999999999999999999999998, 29999999999999999999999999999999999999995))
        self.assertEqual(cost(FULL, 10 ** 39), (3 * 10 ** 39, 7 * 10 ** 39))

    def test_by_name(self):
        self.assertEqual(cost(many=2, writing=LADDER), (4, 4))


class FlatAndCostRaise(unittest.TestCase):

    def test_no_writing(self):
        for function in (flat, cost):
            for thing in strange_objects() + [list(LADDER), (1, 2, [], (), (), ()), (1, 2, ([1],), (), (), ())]:
                raises(self, InvalidWriting, function, thing, 1)

    def test_no_number(self):
        for function in (flat, cost):
            for many in [0, -1, -LONG, True, False, None, '1', '', [1], (1,), [], (), {}, {1: 1}] + NO_NUMBERS:
                raises(self, InvalidNumber, function, LADDER, many)

    def test_invalid_writing_comes_first(self):
        for function in (flat, cost):
            for many in [0, True, None, '1']:
                raises(self, InvalidWriting, function, None, many)
                raises(self, InvalidWriting, function, (1, 2, ((3,),), (), (), ()), many)


if __name__ == '__main__':
    unittest.main()
