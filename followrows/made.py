"""Made writings: right for a wish of at most two states, and seeing all of it."""

from followrows.columns import all_columns, full_columns
from followrows.errors import TooMany
from followrows.wishes import check_wish
from followrows.words import has_true

MOST_MADE = 2


def clauses_of(signs):
    """Return the ascending list of all clauses of some signs."""
    found = []
    for column in all_columns(len(signs)):
        literals = [sign if entry else -sign for sign, entry in zip(signs, column) if entry is not None]
        if literals:
            found.append(tuple(sorted(literals)))
    return sorted(found)


def holds_always(clause, cases):
    """Return whether a clause has a true literal in each of some cases: tuples of the entries of all signs."""
    return all([has_true(clause, entries) for entries in cases])


def is_shortest(clause, cases):
    """Return whether a clause holds in all cases, but does not if any of its literals is left out."""
    shorter = [clause[:place] + clause[place + 1:] for place in range(len(clause))]
    return holds_always(clause, cases) and not any([holds_always(other, cases) for other in shorter])


def shortest_clauses(signs, cases):
    """Return the ascending tuple of all shortest clauses of some signs that hold in all cases."""
    return tuple([clause for clause in clauses_of(signs) if is_shortest(clause, cases)])


def writing_for(wish):
    """Return a writing that is right for a wish of at most two states, and sees all of it."""
    check_wish(wish)
    inputs, steps, good = wish
    if len(steps) > MOST_MADE:
        raise TooMany("the wish has more states than one helper can tell")
    # The helper stands behind the inputs, as the last sign of each column.
    helper = inputs + 1
    ahead = (None,) * inputs
    moves = [(state, letter, behind[number] == 1)
             for state, behind in enumerate(steps) for number, letter in enumerate(full_columns(inputs))]
    begun = [letter + (mark,) for state, letter, mark in moves if state == 0]
    going = [ahead + (state == 1,) + letter + (mark,) for state, letter, mark in moves]
    ended = [ahead + (state == 1,) for state, mark in enumerate(good) if mark]
    first = shortest_clauses(list(range(1, helper + 1)), begun)
    nexts = shortest_clauses(list(range(helper, 2 * helper + 1)), going)
    # Without a good state even the clause without literals would hold, which is none.
    last = shortest_clauses([helper], ended) if ended else ((-helper,), (helper,))
    return inputs, helper, first, (), nexts, last
