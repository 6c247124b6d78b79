"""Promise [31], and of [2] what belongs to it: made writings."""

import itertools
import unittest

from followrows.clauses import is_writing
from followrows.errors import InvalidWish, TooMany
from followrows.forced import sees_all
from followrows.made import writing_for
from followrows.right import is_right
from followrows.words import filling
from tests.anything import leaves_alone, raises, strange_objects
from tests.reference import AT_MOST_ONE, BOOLS, NO_WISHES, all_clauses, made_wishes, wished
from tests.tables import EVERY, NO_WORD, WISH_EVEN, WISH_TURNS, slow_written, words_up_to


def small_wishes(inputs):
    """Return all wishes with one state or two of so many inputs."""
    found = []
    for states in (1, 2):
        behind = list(itertools.product(range(states), repeat=2 ** inputs))
        for steps in itertools.product(behind, repeat=states):
            found += [(inputs, steps, good) for good in itertools.product(BOOLS, repeat=states)]
    return found


ONE, TWO = small_wishes(1), small_wishes(2)


def slow_shortest(signs, cases):
    """Return the ascending tuple of the shortest clauses of some signs that hold in all cases, which are dicts."""
    def holds(clause):
        return all(any(case[abs(literal)] == (literal > 0) for literal in clause) for case in cases)

    clauses = [clause for clause in all_clauses(max(signs), 4) if {abs(literal) for literal in clause} <= set(signs)]
    found = [clause for clause in clauses if holds(clause)]
    return tuple(sorted(clause for clause in found if not any(holds(tuple(other)) for other in
                                                              itertools.combinations(clause, len(clause) - 1))))


def slow_writing(wish):
    """Return the writing that the document tells, going through all clauses."""
    inputs, steps, good = wish
    helper = inputs + 1
    first, nexts = [], []
    for state, behind in enumerate(steps):
        for word, after in zip(itertools.product(BOOLS, repeat=inputs), behind):
            if state == 0:
                first.append({**dict(zip(range(1, helper), word)), helper: after == 1})
            nexts.append({helper: state == 1, **dict(zip(range(helper + 1, 2 * helper), word)), 2 * helper: after == 1})
    last = slow_shortest([helper], [{helper: state == 1} for state, mark in enumerate(good) if mark])
    return (inputs, helper, slow_shortest(range(1, helper + 1), first), (), slow_shortest(range(helper, 2 * helper + 1), nexts),
            last if any(good) else ((-helper,), (helper,)))


class Made(unittest.TestCase):

    def test_document(self):
        self.assertEqual(writing_for(WISH_EVEN), (1, 2, ((-2, 1), (-1, 2)), (),
                                                  ((-4, -3, -2), (-4, 2, 3), (-3, 2, 4), (-2, 3, 4)), ((-2,),)))
        self.assertEqual([is_right(writing_for(WISH_EVEN), WISH_EVEN), sees_all(writing_for(WISH_EVEN), WISH_EVEN),
                          writing_for(EVERY)], [True, True, (1, 2, ((-2,),), (), ((-4,), (-2,)), ((-2,),))])

    def test_clauses(self):
        for wish in ONE + TWO[:4] + TWO[4::11]:
            found = leaves_alone(self, writing_for, wish)
            self.assertIs(is_writing(found), True)
            self.assertEqual(found, slow_writing(wish))
            for part in found[2:]:
                self.assertEqual(list(part), sorted(part))

    def test_right_and_sees_all(self):
        self.assertEqual([len(ONE), len(TWO)], [66, 1026])
        for wish in ONE + TWO[:2] + TWO[2::4]:
            found = writing_for(wish)
            self.assertEqual(found[:2], (wish[0], wish[0] + 1))
            self.assertIs(is_right(found, wish), True)
            self.assertIs(sees_all(found, wish), True)

    def test_words(self):
        for wish in ONE + TWO[::40]:
            found = writing_for(wish)
            for word in words_up_to(wish[0], 4 if wish[0] == 1 else 2):
                self.assertIs(slow_written(found, word), wished(wish, word))

    def test_the_helper_tells_state_one(self):
        for wish in ONE[2:] + TWO[2::25]:
            for word in words_up_to(wish[0], 4 if wish[0] == 1 else 2):
                row = filling(writing_for(wish), word)
                if row is not None:
                    ends = [wished(wish[:2] + ((False, True),), word[:many]) for many in range(1, len(word) + 1)]
                    self.assertEqual([column[-1] for column in row], ends)

    def test_no_good_state(self):
        self.assertEqual(writing_for(NO_WORD), (1, 2, ((-2,),), (), ((-4,), (-2,)), ((-2,), (2,))))
        self.assertEqual(writing_for((2, ((0,) * 4,), (False,))), (2, 3, ((-3,),), (), ((-6,), (-3,)), ((-3,), (3,))))
        found = writing_for((1, ((0, 1), (1, 0)), (False, False)))
        self.assertEqual(found, writing_for(WISH_EVEN)[:5] + (((-2,), (2,)),))

    def test_both_states_good(self):
        self.assertEqual(writing_for((1, ((0, 1), (1, 0)), (True, True))), writing_for(WISH_EVEN)[:5] + ((),))
        # Whatever the inputs are, the wish goes to state 1 and back.
        self.assertEqual(writing_for((1, ((1, 1), (0, 0)), (True, True))), (1, 2, ((2,),), (), ((-4, -2), (2, 4)), ()))

    def test_only_the_second_state_good(self):
        self.assertEqual(writing_for((2, ((0, 0, 0, 1), (1, 1, 1, 1)), (False, True))),
                         (2, 3, ((-3, 1), (-3, 2), (-2, -1, 3)), (),
                          ((-6, 3, 4), (-6, 3, 5), (-5, -4, 6), (-3, 6)), ((3,),)))

    def test_by_name(self):
        self.assertEqual(writing_for(wish=EVERY), writing_for(EVERY))


class Errors(unittest.TestCase):

    def test_no_wish(self):
        for thing in strange_objects() + NO_WISHES + [AT_MOST_ONE[:2], AT_MOST_ONE + (1,)]:
            raises(self, InvalidWish, writing_for, thing)

    def test_too_many_states(self):
        wishes = [AT_MOST_ONE, WISH_TURNS] + [wish for states in range(3, 13) for inputs in (1, 2)
                                              for wish in made_wishes(inputs, states, 2, seed=states)]
        # Also where the words come to two states alone.
        wishes += [(1, ((0, 1), (1, 0), (2, 2)), (True, False, True)), (1, ((0, 0),) * 3, (True,) * 3)]
        for wish in wishes:
            raises(self, TooMany, writing_for, wish)


if __name__ == '__main__':
    unittest.main()
