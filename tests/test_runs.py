"""Promise [27], and of [2] what belongs to it: runs."""

import itertools
import random
import unittest

from followrows.errors import InvalidNumber, InvalidRuns, InvalidWish, InvalidWriting
from followrows.following import followed, seen
from followrows.runs import run_can_come, run_told
from followrows.wishes import can_come, just
from tests.anything import LONG, leaves_alone, raises, strange_objects
from tests.reference import (ENTRIES, LADDER, NO_WISHES, NO_WRITINGS, made_wishes, made_writings, slow_followed,
                             wished_words)
from tests.tables import (COUNTER, EVERY, FREE, HUNDREDS, HUNDREDS_TWO, JUST_ONE, KNOWN, KNOWN_TWO, NEAR, NEVER, NO_WORD,
                          PARITY, SPLIT, TURNS, WISH_EVEN, WISH_JUST_ONE, WISH_NEAR, WISH_ONE, WISH_TURNS, WISHES,
                          WISHES_TWO, columns, slow_followers, slow_is_end, slow_starts, states_by, tells)

RUNS = [((None,), 10 ** 30), ((True,), 1), ((None,), 10 ** 30)]
MOST = 10 ** 40 - 1
# The helpers count columns: three, five and so on of them come to where they began.
ROUND = (1, 2, ((-2,),), (), ((-4, -2), (2, 4)), ())
ROUND_OF_FOUR = (1, 3, ((-2,), (-3,)), (), ((-5, -2), (2, 5), (-6, 2, 3), (-6, -3, -2), (-2, 3, 6), (-3, 2, 6)), ())
WRITINGS = KNOWN + [LADDER, ROUND, ROUND_OF_FOUR] + made_writings(1, 1, 6, seed=1) + made_writings(1, 2, 12, seed=2)
WRITINGS += made_writings(1, 3, 12, seed=3, clauses=5)
WRITINGS_TWO = KNOWN_TWO + made_writings(2, 2, 10, seed=4) + made_writings(2, 3, 8, seed=5, clauses=5)
SOME_WISHES = WISHES + made_wishes(1, 3, 8, seed=6) + made_wishes(1, 12, 8, seed=7)
SOME_WISHES_TWO = WISHES_TWO + made_wishes(2, 3, 8, seed=8) + made_wishes(2, 12, 6, seed=9)


def some_runs(inputs, many, counts, seed):
    """Return so many lists of one to six runs with some counts; columns that tell nothing come more often."""
    picks = random.Random(seed)
    letters = columns(inputs) + [(None,) * inputs] * 4 * inputs
    return [[(picks.choice(letters), picks.choice(counts)) for _ in range(picks.randrange(1, 7))] for _ in range(many)]


def spelled(runs):
    """Return the setting that runs stand for."""
    return [column for column, count in runs for _ in range(count)]


def after_many(step, begun, count):
    """Return what comes of taking a step so many times, going round as soon as something comes again."""
    known = {}
    met = []
    while begun not in known and len(met) < count:
        known[begun] = len(met)
        met.append(begun)
        begun = step(begun)
    if len(met) == count:
        return begun
    start = known[begun]
    return met[start + (count - start) % (len(met) - start)]


def onward(writing, column, ahead):
    """Return the columns that stand in settled rows behind some, or None at the beginning, and have some inputs."""
    if ahead is None:
        after = slow_starts(writing)
    else:
        after = {other for one in ahead for other in slow_followers(writing, one)}
    return frozenset(other for other in after if tells([other[:writing[0]]], [column]))


def backward(writing, column, behind):
    """Return the columns behind which a column with some inputs can stand that is one of some."""
    fitting = [other for other in behind if tells([other[:writing[0]]], [column])]
    return frozenset(one for one in columns(writing[1]) if set(slow_followers(writing, one)) & set(fitting))


def slow_run_told(writing, runs, place):
    """Return the column with a number that following of runs leaves, from both ends."""
    ahead, behind = None, frozenset(column for column in columns(writing[1]) if slow_is_end(writing, column))
    left = place + 1
    others = []
    for column, count in runs:
        taken = min(left, count)
        left -= taken
        others.append((column, count - taken))
        if taken and ahead is None:
            ahead, taken = onward(writing, column, None), taken - 1
        ahead = after_many(lambda told: onward(writing, column, told), ahead, taken)
    for column, count in others[::-1]:
        behind = after_many(lambda told: backward(writing, column, told), behind, count)
    found = ahead & behind
    return tuple(entries[0] if len(set(entries)) == 1 else None for entries in zip(*found)) if found else None


class RunTold(unittest.TestCase):

    def test_document(self):
        self.assertEqual([run_told(LADDER, RUNS, 7), run_told(LADDER, RUNS, 2 * 10 ** 30), run_told(LADDER, RUNS + RUNS, 7)],
                         [(False, False), (False, True), None])

    def test_each_place_of_short_runs(self):
        dead = 0
        for inputs, writings in ((1, WRITINGS), (2, WRITINGS_TWO)):
            for number, writing in enumerate(writings):
                for runs in some_runs(inputs, 12, (1, 1, 2, 3), seed=number):
                    setting = spelled(runs)
                    left = followed(writing, [column + (None,) * (writing[1] - inputs) for column in setting])
                    told = [leaves_alone(self, run_told, writing, runs, place) for place in range(len(setting))]
                    self.assertEqual(told, [None] * len(setting) if left is None else left)
                    sight = seen(writing, setting)
                    if sight is not None:
                        self.assertEqual([column[:inputs] for column in told], sight)
                    dead += left is None
        self.assertGreater(dead, 100)

    def test_longer_runs(self):
        for number, writing in enumerate(WRITINGS):
            for runs in some_runs(1, 2, (5, 8, 13, 30), seed=number):
                left = slow_followed(writing, [column + (None,) * (writing[1] - 1) for column in spelled(runs)])
                many = sum(count for _, count in runs)
                for place in sorted({0, 1, many // 2, many - 2, many - 1, runs[0][1] - 1, many - runs[-1][1]}):
                    self.assertEqual(run_told(writing, runs, place), None if left is None else left[place])

    def test_long_runs(self):
        counts = (1, 2, 10 ** 6, 10 ** 39 + 1, MOST, MOST - 1, 2 ** 131, 3 ** 80)
        for inputs, writings in ((1, WRITINGS), (2, WRITINGS_TWO[:8])):
            for number, writing in enumerate(writings):
                for runs in some_runs(inputs, 3, counts, seed=number + 100):
                    self.check_places(writing, runs)

    def check_places(self, writing, runs):
        """Fail unless what is told at both ends, in the midst and at the borders of runs is what should be."""
        ends = list(itertools.accumulate(count for _, count in runs))
        places = {0, 1, ends[-1] // 2, ends[-1] - 2, ends[-1] - 1}
        places |= {end + more for end in ends for more in (-2, -1, 0, 1)}
        for place in sorted(places):
            if 0 <= place < ends[-1]:
                self.assertEqual(run_told(writing, runs, place), slow_run_told(writing, runs, place))

    def test_writings_with_hundreds_of_standings(self):
        for inputs, writing in ((1, HUNDREDS), (2, HUNDREDS_TWO)):
            for runs in some_runs(inputs, 4, (1, 2, 10 ** 20, MOST), seed=inputs):
                self.check_places(writing, runs)

    def test_at_most_one(self):
        free = ((None,), MOST)
        self.assertEqual(run_told(LADDER, [free], 10 ** 39), (None, None))
        runs = [free, ((True,), 1), free]
        for place in (0, 1, 10 ** 39, MOST - 1):
            self.assertEqual(run_told(LADDER, runs, place), (False, False))
        self.assertEqual(run_told(LADDER, runs, MOST), (True, True))
        for place in (MOST + 1, 2 * MOST, 2 * MOST - 10 ** 39):
            self.assertEqual(run_told(LADDER, runs, place), (False, True))
        for place in (0, MOST, MOST + 1):
            self.assertIsNone(run_told(LADDER, [free, ((True,), 2)], place))

    def test_just_one_at_the_end(self):
        runs = [((False,), MOST), ((None,), 1)]
        self.assertEqual([run_told(JUST_ONE, runs, 0), run_told(JUST_ONE, runs, MOST)], [(False, False), (True, True)])
        self.assertIsNone(run_told(JUST_ONE, [((False,), MOST)], 0))
        self.assertEqual(run_told(JUST_ONE, [((None,), 2)] * 2, 3), (None, True))

    def test_going_round(self):
        runs = [((None,), MOST)]
        for place in (0, 1, 2, 3, 10 ** 39, 10 ** 39 + 1, MOST - 2, MOST - 1):
            self.assertEqual(run_told(ROUND, runs, place), (None, place % 2 == 1))
            self.assertEqual(run_told(ROUND_OF_FOUR, runs, place), (None, place % 2 == 1, place // 2 % 2 == 1))
        # The number of the columns decides at the last one.
        for count in (10 ** 39, 10 ** 39 + 1, MOST, MOST - 1):
            dead = run_told(ROUND[:5] + (((-2,),),), [((None,), count)], 5) is None
            self.assertIs(dead, count % 2 == 0)

    def test_parity(self):
        runs = [((True,), MOST - 1), ((None,), 1), ((True,), MOST)]
        self.assertEqual(run_told(PARITY, runs, MOST - 1), (True, True))
        self.assertEqual([run_told(PARITY, runs, 10 ** 39 + more) for more in (0, 1)], [(True, True), (True, False)])
        self.assertEqual(run_told(PARITY, runs[:2], MOST - 1), (False, False))
        self.assertIsNone(run_told(PARITY, [((True,), MOST)], 0))

    def test_the_same_column_in_several_runs(self):
        for writing in WRITINGS:
            for column in ENTRIES:
                apart = [((column,), 3), ((column,), 1), ((column,), 7), ((None,), 2), ((None,), 10 ** 39)]
                together = [((column,), 11), ((None,), 10 ** 39 + 2)]
                for place in (0, 2, 3, 4, 10, 11, 13, 10 ** 38, 10 ** 39 + 12):
                    self.assertEqual(run_told(writing, apart, place), run_told(writing, together, place))

    def test_a_hundred_runs(self):
        picks = random.Random(5)
        for writing in (LADDER, SPLIT, COUNTER, PARITY, ROUND_OF_FOUR, FREE, HUNDREDS):
            for letters in (ENTRIES, (None, False)):
                runs = [((picks.choice(letters),), picks.randrange(10 ** 39, MOST + 1)) for _ in range(100)]
                many = sum(count for _, count in runs)
                for place in (0, runs[0][1], many // 2, many - 1):
                    self.assertEqual(leaves_alone(self, run_told, writing, runs, place),
                                     slow_run_told(writing, runs, place))
        runs = [((False,), MOST)] * 99 + [((None,), MOST)]
        self.assertEqual(run_told(LADDER, runs, 100 * MOST - 1), (None, None))
        self.assertEqual(run_told(NEAR, [((None,), MOST)] * 100, 50 * MOST), (None,))

    def test_dead_ends(self):
        for place in (0, 1, MOST - 1):
            self.assertIsNone(run_told(NEVER, [((None,), MOST)], place))
        self.assertIsNone(run_told(NEAR, [((None,), MOST), ((True,), 1), ((True,), 1), ((None,), MOST)], 0))
        self.assertIsNone(run_told(TURNS, [((None, None), MOST), ((True, True), 1), ((None, None), MOST)], 2 * MOST))

    def test_two_inputs(self):
        runs = [((True, None), 1), ((None, None), MOST)]
        for place in (0, 1, 10 ** 20, 10 ** 20 + 1, MOST):
            self.assertEqual(run_told(TURNS, runs, place), (place % 2 == 0, place % 2 == 1))

    def test_one_column(self):
        self.assertEqual(run_told(LADDER, [((True,), 1)], 0), (True, True))
        self.assertEqual(run_told(FREE, [((None,), 1)], 0), (None,))

    def test_by_name(self):
        self.assertEqual(run_told(place=7, runs=RUNS, writing=LADDER), (False, False))


class RunCanCome(unittest.TestCase):

    def test_document(self):
        self.assertEqual([run_can_come(just(1), RUNS), run_can_come(just(2), [((False,), 10 ** 30)])], [True, False])

    def test_short_runs(self):
        for inputs, wishes in ((1, SOME_WISHES), (2, SOME_WISHES_TWO)):
            for number, wish in enumerate(wishes):
                found = set()
                for runs in some_runs(inputs, 40, (1, 2, 3), seed=number):
                    told = leaves_alone(self, run_can_come, wish, runs)
                    self.assertIs(told, can_come(wish, spelled(runs)))
                    if inputs * len(spelled(runs)) <= 8:
                        self.assertIs(told, bool(wished_words(wish, spelled(runs))))
                    found.add(told)
                if wish in (WISH_ONE, WISH_NEAR, WISH_TURNS):
                    self.assertEqual(found, {True, False})

    def test_long_runs(self):
        counts = (1, 10 ** 6, 10 ** 39, MOST, 2 ** 131 + 1, 3 ** 80)
        for inputs, wishes in ((1, SOME_WISHES), (2, SOME_WISHES_TWO)):
            for number, wish in enumerate(wishes):
                for runs in some_runs(inputs, 10, counts, seed=number):
                    states = (0,)
                    for column, count in runs:
                        states = after_many(lambda told: states_by(wish, told, column), states, count)
                    self.assertIs(run_can_come(wish, runs), any(wish[2][state] for state in states))

    def test_going_round(self):
        for many in range(1, 13):
            # The states count columns, and go round.
            steps = tuple(((state + 1) % many,) * 2 for state in range(many))
            for good in range(many):
                wish = (1, steps, tuple(state == good for state in range(many)))
                for count in (1, 12, 10 ** 39 + 7, MOST, MOST - 5):
                    self.assertIs(run_can_come(wish, [((None,), count)]), count % many == good)
                    self.assertIs(run_can_come(wish, [((True,), count)] * 100), 100 * count % many == good)

    def test_even_numbers(self):
        for count, told in ((MOST, False), (MOST - 1, True), (10 ** 39, True)):
            self.assertIs(run_can_come(WISH_EVEN, [((True,), count)]), told)
            self.assertIs(run_can_come(WISH_EVEN, [((True,), count), ((None,), 1)]), True)
            self.assertIs(run_can_come(WISH_EVEN, [((True,), count), ((False,), MOST)]), told)

    def test_states_that_go_round_in_wishes_of_twelve(self):
        # Rounds of three, four and five states, of which True at first chooses one.
        steps = ((1, 5),) + tuple(((place + 1, place + 1) for place in range(1, 4))) + ((1, 1),)
        steps += ((6, 9), (7, 7), (8, 8), (6, 6), (10, 10), (11, 11), (9, 9))
        wish = (1, steps, tuple(state in (1, 6, 9) for state in range(12)))
        for count in (10 ** 39, 10 ** 39 + 1, 10 ** 39 + 2, MOST):
            self.assertIs(run_can_come(wish, [((False,), 1), ((None,), count)]), count % 4 == 0)
            self.assertIs(run_can_come(wish, [((True,), 2), ((None,), count)]), count % 3 == 0)
            self.assertIs(run_can_come(wish, [((True,), 1), ((False,), 1), ((None,), count)]), count % 3 == 0)
            self.assertIs(run_can_come(wish, [((None,), 2), ((True,), count)]), count % 4 == 3 or count % 3 == 0)

    def test_no_words(self):
        self.assertIs(run_can_come(NO_WORD, [((None,), MOST)] * 100), False)
        self.assertIs(run_can_come(EVERY, [((None,), MOST)] * 100), True)
        self.assertIs(run_can_come(WISH_NEAR, [((None,), MOST), ((True,), 2)]), False)
        self.assertIs(run_can_come(WISH_JUST_ONE, [((False,), MOST)] * 99 + [((None,), 1)]), True)

    def test_by_name(self):
        self.assertIs(run_can_come(runs=RUNS, wish=WISH_ONE), True)


def no_runs():
    """Return objects that are no runs of one input."""
    run = ((None,), 1)
    broken = [((None,), 0), ((None,), -1), ((None,), 10 ** 40), ((None,), True), ((None,), False), ((None,), None),
              ((None,), '1'), ((None,), (1,)), [(None,), 1], ([None], 1), ((None,),), ((None,), 1, 1), (None, 1), ((), 1),
              ((None, None), 1), ((1,), 1), ((0,), 1), ((None,), [1]), ('', 1), (('1',), 1), (1, (None,)), (), None, 1, 'a', {}]
    found = [[], (), (run,), [run] * 101, {0: run}, run, None, 1, '', [[run]], [(run,)]]
    for thing in broken:
        found += [[thing], [run, thing], [thing, run], [run] * 99 + [thing]]
    return found


class Errors(unittest.TestCase):

    def test_no_writing_or_wish(self):
        for thing in strange_objects() + NO_WRITINGS:
            for runs, place in itertools.product(([((None,), 1)], None), (0, None)):
                raises(self, InvalidWriting, run_told, thing, runs, place)
        for thing in strange_objects() + NO_WISHES:
            for runs in ([((None,), 1)], None):
                raises(self, InvalidWish, run_can_come, thing, runs)

    def test_no_runs(self):
        for runs in no_runs() + strange_objects() + [[thing] for thing in strange_objects()]:
            for place in (0, -1, None):
                raises(self, InvalidRuns, run_told, LADDER, runs, place)
            raises(self, InvalidRuns, run_can_come, WISH_ONE, runs)
        for thing in strange_objects():
            for runs in ([(thing, 1)], [(thing, thing)], [((thing, None), 1)]):
                raises(self, InvalidRuns, run_told, LADDER, runs, 0)
            if thing not in (5, 17, LONG, 10 ** 20):
                raises(self, InvalidRuns, run_can_come, WISH_ONE, [((None,), thing)])
            raises(self, InvalidRuns, run_can_come, WISH_ONE, [((None,), 1), ((None,), 1), thing])

    def test_columns_hang_on_the_inputs(self):
        one, two = [((None,), 1)], [((None, True), 1)]
        raises(self, InvalidRuns, run_told, LADDER, two, 0)
        raises(self, InvalidRuns, run_told, TURNS, one, 0)
        raises(self, InvalidRuns, run_told, TURNS, two + one, 0)
        raises(self, InvalidRuns, run_can_come, WISH_TURNS, one)
        raises(self, InvalidRuns, run_can_come, WISH_ONE, two)
        self.assertEqual(run_told(TURNS, two, 0), (False, True))

    def test_as_many_runs_as_there_can_be(self):
        self.assertEqual(run_told(FREE, [((True,), 1)] * 100, 99), (True,))
        raises(self, InvalidRuns, run_told, FREE, [((True,), 1)] * 101, 99)
        self.assertEqual(run_told(FREE, [((True,), 10 ** 40 - 1)], 0), (True,))
        raises(self, InvalidRuns, run_told, FREE, [((True,), 10 ** 40)], 0)
        self.assertIs(run_can_come(EVERY, [((True,), LONG)] * 100), True)
        raises(self, InvalidRuns, run_can_come, EVERY, [((True,), 1)] * 101)

    def test_no_place(self):
        for runs in ([((None,), 1)], RUNS, [((True,), MOST)] * 100):
            many = sum(count for _, count in runs)
            for place in [-1, -many, many, many + 1, 10 * many, True, False, None, '0', 'a', (0,), [0], -LONG]:
                raises(self, InvalidNumber, run_told, FREE, runs, place)
            run_told(FREE, runs, many - 1)
        for thing in strange_objects():
            if thing.__class__ is not int or thing != 0:
                raises(self, InvalidNumber, run_told, FREE, [((None,), 3), ((True,), 2)], thing)


if __name__ == '__main__':
    unittest.main()
