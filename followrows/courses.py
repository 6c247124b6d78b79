"""Courses and reasons: lists of steps by which following goes."""

from followrows.errors import AlreadyTold, IsDead, UnknownEntry
from followrows.following import PARTS, Following, check_row_of, follow, is_there, part_of
from followrows.integers import is_between


def is_step(writing, many, thing):
    """Return whether an object is a step in a row of so many columns."""
    if not isinstance(thing, tuple) or len(thing) != 3:
        return False
    name, index, column = thing
    if name not in PARTS or not is_between(0, many - 1, column):
        return False
    return is_there(name, many, column) and is_between(0, len(part_of(writing, name)) - 1, index)


def taken_by(writing, row, thing):
    """Return the following of a row that takes all steps of a list, or None if an object is no such list."""
    if not isinstance(thing, list):
        return None
    following = Following(writing, row)
    for step in thing:
        if not is_step(writing, len(row), step) or not following.take(step):
            return None
    return following


def course(writing, row):
    """Return a course of a row."""
    check_row_of(writing, row)
    return follow(writing, row).taken


def is_course(writing, row, thing):
    """Return whether an object is a course of a row."""
    check_row_of(writing, row)
    following = taken_by(writing, row, thing)
    return following is not None and following.is_done()


def follow_for(writing, row, column, sign):
    """Return a row's following that has gone as long as it can, if an entry of the row can have a reason."""
    check_row_of(writing, row)
    if not is_between(0, len(row) - 1, column) or not is_between(1, writing[1], sign):
        raise UnknownEntry("there is no such column or sign")
    if row[column][sign - 1] is not None:
        raise AlreadyTold("the row tells this entry")
    following = follow(writing, row)
    if following.dead:
        raise IsDead("following of this row ends in a dead end")
    return following


def steps_up_to(following, column, sign):
    """Return the list of the steps that a following took until it told an entry, or None if it did not tell it."""
    signs = [abs(literal) for literal in following.literals]
    number = column * following.size + sign
    return following.taken[:signs.index(number) + 1] if number in signs else None


def reason(writing, row, column, sign):
    """Return a reason of an entry of a row, or None if following does not tell it."""
    return steps_up_to(follow_for(writing, row, column, sign), column, sign)


def is_reason(writing, row, column, sign, thing):
    """Return whether an object is a reason of an entry of a row."""
    follow_for(writing, row, column, sign)
    following = taken_by(writing, row, thing)
    if following is None or not following.literals:
        return False
    return abs(following.literals[-1]) == column * writing[1] + sign
