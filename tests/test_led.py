"""Promise [29], and of [2] what belongs to it: led rows."""

import itertools
import random
import unittest

from followrows.courses import is_reason
from followrows.errors import (AlreadyTold, InvalidNumber, InvalidValue, InvalidWriting, IsDead, NothingToUndo, NotTold,
                               UnknownEntry)
from followrows.following import followed
from followrows.led import Led
from tests.anything import LONG, leaves_alone, raises, strange_objects
from tests.reference import LADDER, NO_WRITINGS, made_writings, slow_followed, slow_is_reason
from tests.tables import COUNTER, FREE, HUNDREDS, JUST_ONE, KNOWN, KNOWN_TWO, NEAR, NEVER, PARITY, SPLIT, TURNS

WRITINGS = KNOWN + KNOWN_TWO + [LADDER] + made_writings(1, 2, 10, seed=1) + made_writings(2, 2, 4, seed=2)
WRITINGS += made_writings(1, 3, 8, seed=3, clauses=4) + made_writings(2, 3, 4, seed=4) + made_writings(1, 4, 4, seed=5)
# A dead end from the beginning, though nothing is told.
DEAD = [(NEVER, 3), (JUST_ONE[:2] + (((1,),), ((-1,),), (), ()), 1), ((1, 1, ((1,),), (), ((-2, -1), (-1, 2)), ()), 2)]


class Shadow:
    """What a led row should be: the entries told, each time worked out anew."""

    def __init__(self, writing, many, told=()):
        self.writing, self.many, self.told = writing, many, list(told)

    def row_told(self, told):
        """Return the row in which just some entries are told."""
        row = [[None] * self.writing[1] for _ in range(self.many)]
        for column, sign, value in told:
            row[column][sign - 1] = value
        return [tuple(column) for column in row]

    def left(self, told=None):
        """Return the row that following leaves."""
        return slow_followed(self.writing, self.row_told(self.told if told is None else told))

    def news(self, entry):
        """Return what should be returned when an entry is told."""
        before, after = self.left(), self.left(self.told + [entry])
        if after is None:
            return None
        return [(column, sign + 1, after[column][sign]) for column in range(self.many) for sign in range(self.writing[1])
                if after[column][sign] is not None and before[column][sign] is None
                and (column, sign + 1) != entry[:2]]


class Calls(unittest.TestCase):
    """Long lists of calls, on copies, too."""

    def check(self, led, shadow):
        """Fail unless a led row is what it should be."""
        self.assertEqual(led.row, shadow.left())
        self.assertEqual(led.told, shadow.told)
        self.assertEqual(len(led), len(shadow.told))

    def tell(self, led, shadow, entry):
        """Tell an entry, and fail unless the right thing is returned or raised."""
        column, sign, _ = entry
        left = shadow.left()
        if left is None:
            raises(self, IsDead, led.tell, *entry)
        elif left[column][sign - 1] is not None:
            raises(self, AlreadyTold, led.tell, *entry)
        else:
            self.assertEqual(led.tell(*entry), shadow.news(entry))
            shadow.told.append(entry)

    def reason(self, led, shadow, column, sign):
        """Ask for a reason, and fail unless the right thing is returned or raised."""
        left = shadow.left()
        if left is None:
            raises(self, IsDead, led.reason, column, sign)
        elif left[column][sign - 1] is None:
            raises(self, NotTold, led.reason, column, sign)
        elif (column, sign) in [entry[:2] for entry in shadow.told]:
            raises(self, AlreadyTold, led.reason, column, sign)
        else:
            row = shadow.row_told(shadow.told)
            found = led.reason(column, sign)
            self.assertIs(slow_is_reason(shadow.writing, row, column, sign, found), True)
            self.assertIs(is_reason(shadow.writing, row, column, sign, found), True)

    def undo(self, led, shadow):
        """Take the last entry back, and fail unless it is right."""
        if shadow.told:
            self.assertIsNone(led.undo())
            shadow.told.pop()
        else:
            raises(self, NothingToUndo, led.undo)

    def play(self, writing, many, calls, seed):
        """Make so many calls."""
        picks = random.Random(seed)
        pairs = [(Led(writing, many), Shadow(writing, many))]
        for _ in range(calls):
            led, shadow = picks.choice(pairs)
            entry = (picks.randrange(many), picks.randrange(1, writing[1] + 1), picks.random() < 0.5)
            kind = picks.random()
            if kind < 0.55:
                self.tell(led, shadow, entry)
            elif kind < 0.75:
                self.reason(led, shadow, *entry[:2])
            elif kind < 0.9:
                for _ in range(picks.choice((1, 1, 2, 5))):
                    self.undo(led, shadow)
            elif len(pairs) < 4:
                pairs.append((led.copy(), Shadow(writing, many, shadow.told)))
            for pair in pairs:
                self.check(*pair)

    def test_long_lists_of_calls(self):
        for number, writing in enumerate(WRITINGS):
            for many in (1, 2, 5):
                self.play(writing, many, 40, seed=10 * number + many)

    def test_longer_rows(self):
        for number, writing in enumerate([LADDER, SPLIT, PARITY, NEAR, TURNS]):
            self.play(writing, 12, 80, seed=number)

    def test_dead_from_the_beginning(self):
        for writing, many in DEAD:
            led = Led(writing, many)
            self.assertEqual([led.row, led.told, len(led)], [None, [], 0])
            for value in (False, True):
                raises(self, IsDead, led.tell, 0, 1, value)
            raises(self, IsDead, led.reason, 0, 1)
            raises(self, NothingToUndo, led.undo)
            self.assertEqual([led.copy().row, led.copy().told], [None, []])
            self.play(writing, many, 20, seed=many)


class LedRows(unittest.TestCase):

    def test_document(self):
        led = Led(LADDER, 3)
        self.assertEqual([led.row, led.tell(1, 1, True), led.row],
                         [[(None, None), (None, None), (None, None)],
                          [(0, 1, False), (0, 2, False), (1, 2, True), (2, 1, False), (2, 2, True)],
                          [(False, False), (True, True), (False, True)]])
        self.assertEqual([led.undo(), led.tell(0, 2, True)], [None, [(1, 1, False), (1, 2, True), (2, 1, False), (2, 2, True)]])
        raises(self, AlreadyTold, led.tell, 2, 2, False)
        self.assertEqual([led.told, len(led)], [[(0, 2, True)], 1])
        row = [(None, True), (None, None), (None, None)]
        self.assertIs(is_reason(LADDER, row, 1, 1, led.reason(1, 1)), True)

    def test_followed_at_first(self):
        led = Led(COUNTER, 2)
        self.assertEqual(led.row, followed(COUNTER, [(None,) * 3] * 2))
        self.assertEqual(led.row[0][2], False)
        self.assertEqual([led.told, len(led)], [[], 0])
        raises(self, AlreadyTold, led.tell, 0, 3, True)
        self.assertIs(slow_is_reason(COUNTER, [(None,) * 3] * 2, 0, 3, led.reason(0, 3)), True)

    def test_order_of_what_follows(self):
        # The last column is told first, and the entries of each column from the last sign on.
        writing = (1, 3, (), ((-3, 2), (-2, 1)), ((-6, 3), (-4, 1)), ())
        led = Led(writing, 3)
        self.assertEqual(led.tell(2, 3, True), [(0, 1, True), (0, 2, True), (0, 3, True), (1, 1, True), (1, 2, True),
                                                (1, 3, True), (2, 1, True), (2, 2, True)])

    def test_nothing_follows(self):
        led = Led(FREE, 2)
        self.assertEqual([led.tell(1, 1, False), led.tell(0, 1, True)], [[], []])
        self.assertEqual([led.row, led.told], [[(True,), (False,)], [(1, 1, False), (0, 1, True)]])

    def test_dead_end_and_out_of_it(self):
        led = Led(SPLIT, 3)
        self.assertEqual(led.tell(0, 1, True), [(0, 2, True), (1, 2, True), (2, 2, True)])
        self.assertEqual([led.tell(2, 1, True), led.row], [None, None])
        self.assertEqual([led.told, len(led)], [[(0, 1, True), (2, 1, True)], 2])
        self.assertEqual([led.undo(), led.row], [None, [(True, True, None), (None, True, None), (None, True, None)]])
        led = Led((1, 2, (), (), ((1, 3), (-3, 1)), ((-1, 2), (-2, -1))), 2)
        self.assertEqual([led.tell(1, 1, True), led.row, led.told, len(led)], [None, None, [(1, 1, True)], 1])
        for call in ((led.tell, 0, 1, True), (led.reason, 0, 1), (led.reason, 1, 1)):
            raises(self, IsDead, *call)
        self.assertEqual([led.undo(), led.row, led.told], [None, [(None, None)] * 2, []])
        self.assertEqual([led.tell(1, 1, False), led.row], [[(0, 1, True)], [(True, None), (False, None)]])

    def test_undo_takes_back_what_followed(self):
        led = Led(LADDER, 4)
        rows = []
        for entry in [(3, 2, False), (0, 1, True)]:
            rows.append((led.row, led.told))
            if led.row[entry[0]][entry[1] - 1] is None:
                led.tell(*entry)
        while len(led):
            led.undo()
            self.assertEqual((led.row, led.told), rows[len(led)])
        self.assertEqual(led.row, [(None, None)] * 4)
        raises(self, NothingToUndo, led.undo)

    def test_lists_are_new(self):
        led = Led(LADDER, 3)
        led.tell(2, 2, False)
        self.assertIsNot(led.row, led.row)
        self.assertIsNot(led.told, led.told)
        before = [led.row, led.told, led.reason(0, 2)]
        for change in (lambda: led.row.clear(), lambda: led.told.clear(), lambda: led.row.append(None),
                       lambda: led.told.append((0, 0, 0)), lambda: led.reason(0, 2).clear()):
            change()
            self.assertEqual([led.row, led.told, led.reason(0, 2)], before)
        led.undo()
        led.tell(2, 1, True).clear()
        self.assertEqual(led.row, followed(LADDER, [(None, None), (None, None), (True, None)]))
        twin = led.copy()
        twin.row.clear()
        twin.told.clear()
        self.assertEqual([twin.row, twin.told], [led.row, led.told])

    def test_copies_are_independent(self):
        led = Led(LADDER, 3)
        led.tell(2, 2, False)
        twin = led.copy()
        self.assertIs(twin.__class__, Led)
        self.assertIsNot(twin, led)
        led.undo()
        self.assertEqual([twin.told, led.told], [[(2, 2, False)], []])
        self.assertEqual([twin.row, led.row], [[(False, False)] * 3, [(None, None)] * 3])
        twin.undo()
        twin.tell(0, 1, True)
        self.assertEqual([led.row, len(led), len(twin)], [[(None, None)] * 3, 0, 1])
        third = twin.copy().copy()
        raises(self, AlreadyTold, third.tell, 0, 1, False)
        self.assertEqual(third.row, twin.row)

    def test_reason_hangs_on_what_was_told(self):
        led = Led(LADDER, 3)
        led.tell(2, 2, False)
        self.assertIs(slow_is_reason(LADDER, [(None, None)] * 2 + [(None, False)], 0, 1, led.reason(0, 1)), True)
        led.undo()
        led.tell(1, 1, True)
        found = led.reason(0, 1)
        self.assertIs(slow_is_reason(LADDER, [(None, None), (True, None), (None, None)], 0, 1, found), True)
        self.assertIs(slow_is_reason(LADDER, [(None, None)] * 2 + [(None, False)], 0, 1, found), False)
        # What followed earlier is no reason of its own: only the entries told stand in the row.
        self.assertIs(slow_is_reason(LADDER, [(None, None), (True, None), (None, None)], 2, 1, led.reason(2, 1)), True)

    def test_three_hundred_columns(self):
        led = Led(LADDER, 300)
        news = led.tell(150, 1, True)
        self.assertEqual(len(news), 599)
        self.assertEqual(news, sorted(news))
        self.assertEqual(led.row, [(False, False)] * 150 + [(True, True)] + [(False, True)] * 149)
        found = led.reason(299, 1)
        row = [(None, None)] * 150 + [(True, None)] + [(None, None)] * 149
        self.assertIs(is_reason(LADDER, row, 299, 1, found), True)
        led.undo()
        self.assertEqual(led.row, [(None, None)] * 300)
        led = Led(PARITY, 300)
        for column in range(299):
            led.tell(column, 1, True)
        self.assertEqual([led.row[298:], len(led)], [[(True, True), (True, False)], 299])
        twin = led.copy()
        for column in range(299):
            led.undo()
        self.assertEqual([len(led), len(twin), twin.row[0]], [0, 299, (True, True)])
        self.assertEqual(led.row, followed(PARITY, [(None, None)] * 300))

    def test_hundreds_of_standings(self):
        led = Led(HUNDREDS, 300)
        self.assertEqual(led.row, followed(HUNDREDS, [(None,) * 3] * 300))
        picks = random.Random(1)
        told = [[None] * 3 for _ in range(300)]
        while led.row is not None and len(led) < 40:
            column, sign, value = picks.randrange(300), picks.randrange(1, 4), picks.random() < 0.5
            if led.row[column][sign - 1] is None:
                led.tell(column, sign, value)
                told[column][sign - 1] = value
                self.assertEqual(led.row, followed(HUNDREDS, [tuple(column) for column in told]))

    def test_by_name(self):
        led = Led(many=3, writing=LADDER)
        self.assertEqual(led.tell(value=False, column=2, sign=2), [(0, 1, False), (0, 2, False), (1, 1, False), (1, 2, False),
                                                                   (2, 1, False)])
        self.assertIs(slow_is_reason(LADDER, [(None, None)] * 2 + [(None, False)], 0, 1, led.reason(sign=1, column=0)), True)

    def test_arguments_stay(self):
        leaves_alone(self, Led, LADDER, 3)


class Errors(unittest.TestCase):

    def states(self):
        """Return led rows in which something is told, nothing is told, and one at a dead end."""
        led, dead = Led(LADDER, 3), Led((1, 2, (), (), ((1, 3), (-3, 1)), ((-1, 2), (-2, -1))), 3)
        led.tell(1, 1, True)
        dead.tell(2, 1, True)
        return [led, Led(LADDER, 3), dead, Led(NEVER, 3)]

    def refuses(self, error, led, call, *arguments):
        """Fail unless a call raises just this error and changes nothing."""
        before = [led.row, led.told, len(led)]
        raises(self, error, call, *arguments)
        self.assertEqual([led.row, led.told, len(led)], before)

    def test_no_writing(self):
        for thing, many in itertools.product(strange_objects() + NO_WRITINGS, (3, 0, None)):
            raises(self, InvalidWriting, Led, thing, many)

    def test_no_number(self):
        things = [0, -1, 301, 10 ** 10, LONG, -LONG, True, False, None, '1', 'a', '', (1,), [1], {1: 1}]
        for many in things + [thing for thing in strange_objects() if thing not in (5, 17)]:
            raises(self, InvalidNumber, Led, LADDER, many)
            raises(self, InvalidNumber, Led, NEVER, many)
        self.assertEqual([len(Led(FREE, 1).row), len(Led(FREE, 300).row)], [1, 300])

    def test_no_entry(self):
        for led in self.states():
            size = 2 if led.row is None else len(led.row[0])
            for column in [-1, 3, 4, LONG, True, False, None, '0', (0,), [0], {}]:
                for sign, value in itertools.product((1, 0, None), (True, None)):
                    self.refuses(UnknownEntry, led, led.tell, column, sign, value)
                    self.refuses(UnknownEntry, led, led.reason, column, sign)
            for sign in [-1, 0, size + 1, LONG, True, False, None, '1', (1,), [1], {}]:
                for column, value in itertools.product((0, 2), (True, None)):
                    self.refuses(UnknownEntry, led, led.tell, column, sign, value)
                    self.refuses(UnknownEntry, led, led.reason, column, sign)
            for thing in strange_objects():
                if thing.__class__ is not int:
                    self.refuses(UnknownEntry, led, led.tell, thing, 1, True)
                    self.refuses(UnknownEntry, led, led.tell, 0, thing, True)
                    self.refuses(UnknownEntry, led, led.reason, thing, thing)

    def test_no_value(self):
        for led in self.states():
            for value in [0, 1, None, 'True', '1', (True,), [True], {}, LONG]:
                for column in (0, 1, 2):
                    self.refuses(InvalidValue, led, led.tell, column, 1, value)
            for value in strange_objects():
                if value.__class__ is not bool:
                    self.refuses(InvalidValue, led, led.tell, 0, 1, value)

    def test_dead(self):
        for led in self.states()[2:]:
            for column in (0, 2):
                self.refuses(IsDead, led, led.tell, column, 1, True)
                self.refuses(IsDead, led, led.reason, column, 1)

    def test_already_told(self):
        led = self.states()[0]
        for column, sign, value in itertools.product(range(3), (1, 2), (False, True)):
            self.refuses(AlreadyTold, led, led.tell, column, sign, value)
        self.refuses(AlreadyTold, led, led.reason, 1, 1)
        led = Led(NEAR, 4)
        led.tell(0, 1, False)
        led.tell(2, 1, True)
        for column in (0, 1, 2, 3):
            self.refuses(AlreadyTold, led, led.tell, column, 1, True)
        for column in (0, 2):
            self.refuses(AlreadyTold, led, led.reason, column, 1)

    def test_not_told(self):
        led = self.states()[1]
        for column, sign in itertools.product(range(3), (1, 2)):
            self.refuses(NotTold, led, led.reason, column, sign)
        led = Led(TURNS, 3)
        led.tell(0, 1, True)
        led.undo()
        self.refuses(NotTold, led, led.reason, 0, 1)

    def test_nothing_to_undo(self):
        for led in (self.states()[1], self.states()[3]):
            self.refuses(NothingToUndo, led, led.undo)
        led = self.states()[0]
        led.undo()
        self.refuses(NothingToUndo, led, led.undo)

    def test_in_their_order(self):
        led = self.states()[3]
        self.refuses(UnknownEntry, led, led.tell, 3, 1, None)
        self.refuses(InvalidValue, led, led.tell, 0, 1, None)
        self.refuses(IsDead, led, led.tell, 0, 1, True)
        raises(self, InvalidWriting, Led, None, None)


if __name__ == '__main__':
    unittest.main()
