"""Writings and wishes that are none, or do not fit, for all functions that take one of each."""

import itertools

from followrows.errors import InvalidMatch, InvalidWish, InvalidWriting
from tests.anything import raises, strange_objects
from tests.reference import LADDER, NO_WISHES, NO_WRITINGS
from tests.tables import FREE, NEVER, TURNS, WISH_ONE, WISH_TURNS


def refuses_misfits(test, function, *more):
    """Fail unless a function of a writing and a wish refuses what is none, and what does not fit, in this order.

    What more it is passed may be wrong, too, as that is refused later.
    """
    for thing, wish in itertools.product(strange_objects() + NO_WRITINGS, (WISH_ONE, WISH_TURNS, None)):
        raises(test, InvalidWriting, function, thing, wish, *more)
    for writing, thing in itertools.product((LADDER, TURNS), strange_objects() + NO_WISHES):
        raises(test, InvalidWish, function, writing, thing, *more)
    for writing, wish in [(LADDER, WISH_TURNS), (TURNS, WISH_ONE), (FREE, WISH_TURNS), (NEVER, (2, ((0,) * 4,), (True,)))]:
        raises(test, InvalidMatch, function, writing, wish, *more)
