"""Clauses and writings, and the clauses of a whole row."""

from followrows.errors import InvalidWriting
from followrows.integers import check_from_one, is_between, is_integer

MOST_LITERALS = 4
MOST_CLAUSES = 16
MOST_INPUTS = 2
MOST_SIGNS = 4


def is_literal(size, thing):
    """Return whether an object is a literal of one of so many signs."""
    return is_integer(thing) and 1 <= abs(thing) <= size


def is_clause(size, thing):
    """Return whether an object is a clause of so many signs."""
    if not isinstance(thing, tuple) or not 1 <= len(thing) <= MOST_LITERALS:
        return False
    if not all([is_literal(size, literal) for literal in thing]):
        return False
    has_each_sign_once = len({abs(literal) for literal in thing}) == len(thing)
    return has_each_sign_once and list(thing) == sorted(thing)


def is_part(size, thing):
    """Return whether an object can be a part of a writing, with clauses of so many signs."""
    if not isinstance(thing, tuple) or len(thing) > MOST_CLAUSES:
        return False
    if not all([is_clause(size, clause) for clause in thing]):
        return False
    return len(set(thing)) == len(thing)


def is_writing(thing):
    """Return whether an object is a writing."""
    if not isinstance(thing, tuple) or len(thing) != 6:
        return False
    inputs, size, first, each, nexts, last = thing
    if not is_between(1, MOST_INPUTS, inputs) or not is_between(inputs, MOST_SIGNS, size):
        return False
    # The clauses of nexts are about two columns at once, so about twice as many signs.
    return is_part(2 * size, nexts) and all([is_part(size, part) for part in (first, each, last)])


def check_writing(thing):
    """Raise InvalidWriting if an object is no writing."""
    if not is_writing(thing):
        raise InvalidWriting("this is no writing")


def as_tuple(thing):
    """Return a tuple in place of a list, and any other object as it is."""
    return tuple(thing) if isinstance(thing, list) else thing


def as_part(thing):
    """Return an object with tuples in place of lists: of itself and of its clauses."""
    if not isinstance(thing, (list, tuple)):
        return thing
    return tuple([as_tuple(clause) for clause in thing])


def writing_of(inputs, size, first=(), each=(), nexts=(), last=()):
    """Return the writing with these parts, which may be lists with lists in them."""
    writing = (inputs, size, as_part(first), as_part(each), as_part(nexts), as_part(last))
    check_writing(writing)
    return writing


def moved(clause, by):
    """Return a clause with the numbers of its signs higher by so many."""
    return tuple([literal + by if literal > 0 else literal - by for literal in clause])


def spread(part, size, many):
    """Return the list of the clauses of a part at the first columns of a row, so many."""
    return [moved(clause, column * size) for column in range(many) for clause in part]


def flat(writing, many):
    """Return the list of all clauses of a row of so many columns."""
    check_writing(writing)
    check_from_one(many)
    _, size, first, each, nexts, last = writing
    behind = (many - 1) * size
    ending = [moved(clause, behind) for clause in last]
    return list(first) + spread(each, size, many) + spread(nexts, size, many - 1) + ending


def cost(writing, many):
    """Return the tuple of the numbers of signs and of clauses of a row of so many columns."""
    check_writing(writing)
    check_from_one(many)
    _, size, first, each, nexts, last = writing
    clauses = len(first) + many * len(each) + (many - 1) * len(nexts) + len(last)
    return many * size, clauses
