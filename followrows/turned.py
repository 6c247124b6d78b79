"""Writings turned and joined: mirrored ones, ones with a sign flipped, and ones with the clauses of two."""

from followrows.alike import check_alike
from followrows.clauses import MOST_CLAUSES, MOST_SIGNS, check_writing
from followrows.errors import TooMany, UnknownSign
from followrows.integers import is_between


def renamed_clause(clause, names):
    """Return a clause with other literals, which a dict tells for each literal that they replace."""
    return tuple(sorted([names[literal] for literal in clause]))


def renamed(part, names):
    """Return a part with other literals in its clauses, the order of which is kept."""
    return tuple([renamed_clause(clause, names) for clause in part])


def names_for(literals):
    """Return the dict from each sign and its negative to the literal that is told for the sign, and its negative.

    The literals are told for signs 1, 2 and so on.
    """
    found = {}
    for place, literal in enumerate(literals):
        found[place + 1] = literal
        found[-place - 1] = -literal
    return found


def mirrored(writing):
    """Return the writing for rows that are read from their last column to their first one."""
    check_writing(writing)
    inputs, size, first, each, nexts, last = writing
    names = names_for(list(range(size + 1, 2 * size + 1)) + list(range(1, size + 1)))
    return inputs, size, last, each, renamed(nexts, names), first


def flipped(writing, sign):
    """Return the writing in which a sign of each column is True where it was False, and the other way."""
    check_writing(writing)
    inputs, size, first, each, nexts, last = writing
    if not is_between(1, size, sign):
        raise UnknownSign("there is no such sign")
    names = names_for([-number if number in (sign, sign + size) else number for number in range(1, 2 * size + 1)])
    return inputs, size, renamed(first, names), renamed(each, names), renamed(nexts, names), renamed(last, names)


def spread_parts(writing, signs, size):
    """Return the list of the parts of a writing whose signs have other numbers in columns of another size."""
    _, _, first, each, nexts, last = writing
    names = names_for(signs + [size + sign for sign in signs])
    return [renamed(part, names) for part in (first, each, nexts, last)]


def joined_part(part, other):
    """Return the clauses of a part, and behind them those of another one that are not there yet."""
    return part + tuple([clause for clause in other if clause not in part])


def joined(one, other):
    """Return the writing with the inputs of two writings, the helpers of both and the clauses of both."""
    check_alike(one, other)
    inputs, ahead = one[:2]
    size = ahead + other[1] - inputs
    if size > MOST_SIGNS:
        raise TooMany("together they have more signs a column than a writing has")
    signs = list(range(1, ahead + 1))
    mates = list(range(1, inputs + 1)) + list(range(ahead + 1, size + 1))
    parts, others = spread_parts(one, signs, size), spread_parts(other, mates, size)
    parts = [joined_part(part, mate) for part, mate in zip(parts, others)]
    if max([len(part) for part in parts]) > MOST_CLAUSES:
        raise TooMany("together they have more clauses in a part than a writing has")
    return inputs, size, *parts
