"""Plain and slow ways to what the package works out, and writings and wishes to try it with.

Nothing here calls the package: what it returns is held against this.
"""

import itertools
import random

ENTRIES = (None, False, True)
BOOLS = (False, True)
PARTS = ('first', 'each', 'nexts', 'last')

LADDER = (1, 2, (), ((-1, 2),), ((-2, 4), (-3, -2)), ())
NO_WRITINGS = [list(LADDER), (1, 2, [], (), (), ()), (True, 2, (), (), (), ()), (1, 5, (), (), (), ()), (1, 2)]
AT_MOST_ONE = (1, ((0, 1), (1, 2), (2, 2)), (True, True, False))
NO_WISHES = [list(AT_MOST_ONE), (1, (), ()), (True, ((0, 0),), (True,)), (1, ((0, 1),), (True,)), (1, ((0, 0),), (1,))]


def placed_clauses(writing, many):
    """Return the list of the pairs of a step and its clause, a list of triples (column, sign, value)."""
    size = writing[1]
    found = []
    for name, part in zip(PARTS, writing[2:]):
        columns = {'first': [0], 'each': range(many), 'nexts': range(many - 1), 'last': [many - 1]}[name]
        for column, (index, clause) in itertools.product(columns, enumerate(part)):
            literals = []
            for literal in clause:
                back, sign = divmod(abs(literal) - 1, size)
                literals.append((column + back, sign, literal > 0))
            found.append(((name, index, column), literals))
    return found


def doing(row, literals):
    """Return the literal that a clause tells in a list of lists, 'broken' if it is broken, None otherwise."""
    worths = [(None if row[column][sign] is None else row[column][sign] == value) for column, sign, value in literals]
    if all(worth is False for worth in worths):
        return 'broken'
    if worths.count(False) == len(worths) - 1 and worths.count(None) == 1:
        return literals[worths.index(None)]
    return None


def slow_followed(writing, row):
    """Return the row that following leaves, or None, going through all clauses until nothing is told."""
    clauses = [literals for _, literals in placed_clauses(writing, len(row))]
    row = [list(column) for column in row]
    going = True
    while going:
        going = False
        for literals in clauses:
            done = doing(row, literals)
            if done == 'broken':
                return None
            if done is not None:
                column, sign, value = done
                row[column][sign] = value
                going = True
    return [tuple(column) for column in row]


def walk(writing, row, thing):
    """Go through a list of steps one by one.

    Return what stands then, the entries (column, sign) that were told, and whether the last step broke its
    clause; or None, if the object is no such list, or a step does nothing or stands behind a broken clause.
    """
    if thing.__class__ is not list:
        return None
    # By their texts, in which True and 1, tuples and lists differ.
    clauses = {repr(step): literals for step, literals in placed_clauses(writing, len(row))}
    row = [list(column) for column in row]
    told = []
    broken = False
    for step in thing:
        if broken or repr(step) not in clauses:
            return None
        done = doing(row, clauses[repr(step)])
        if done is None:
            return None
        if done == 'broken':
            broken = True
        else:
            column, sign, value = done
            row[column][sign] = value
            told.append((column, sign + 1))
    return row, told, broken


def slow_is_course(writing, row, thing):
    """Return whether an object is a course, step by step."""
    walked = walk(writing, row, thing)
    if walked is None:
        return False
    left, _, broken = walked
    return broken or all(doing(left, literals) is None for _, literals in placed_clauses(writing, len(row)))


def slow_is_reason(writing, row, column, sign, thing):
    """Return whether an object is a reason, step by step."""
    walked = walk(writing, row, thing)
    return walked is not None and not walked[2] and walked[1][-1:] == [(column, sign)]


def all_rows(size, many):
    """Return all rows of so many signs and columns, in order."""
    columns = list(itertools.product(ENTRIES, repeat=size))
    return [list(row) for row in itertools.product(columns, repeat=many)]


def all_words(inputs, many):
    """Return all words of so many inputs and columns, in order."""
    columns = list(itertools.product(BOOLS, repeat=inputs))
    return [list(word) for word in itertools.product(columns, repeat=many)]


def matches(word, setting):
    """Return whether a word tells at least what a setting of as many columns tells."""
    return all(least is None or entry == least for column, told in zip(word, setting)
               for entry, least in zip(column, told))


def fillings(writing, word):
    """Return the list of all fillings of a word."""
    inputs, size = writing[:2]
    clauses = [literals for _, literals in placed_clauses(writing, len(word))]
    found = []
    for helpers in itertools.product(itertools.product(BOOLS, repeat=size - inputs), repeat=len(word)):
        row = [column + more for column, more in zip(word, helpers)]
        if not any(doing(row, literals) == 'broken' for literals in clauses):
            found.append(row)
    return found


def wished(wish, word):
    """Return whether a word is wished."""
    inputs, steps, good = wish
    state = 0
    for column in word:
        state = steps[state][int(''.join('1' if entry else '0' for entry in column), 2)]
    return good[state]


def wished_words(wish, setting):
    """Return the list of the wished words that tell at least what a setting tells."""
    return [word for word in all_words(wish[0], len(setting)) if matches(word, setting) and wished(wish, word)]


def slow_forced(wish, setting):
    """Return the setting with all forced entries told, or None."""
    found = wished_words(wish, setting)
    if not found:
        return None
    told = []
    for columns in zip(*found):
        told.append(tuple(entries[0] if len(set(entries)) == 1 else None for entries in zip(*columns)))
    return told


def all_clauses(size, most):
    """Return all clauses of so many signs with at most so many literals."""
    found = []
    for many in range(1, most + 1):
        for signs in itertools.combinations(range(1, size + 1), many):
            for values in itertools.product((-1, 1), repeat=many):
                found.append(tuple(sorted(sign * value for sign, value in zip(signs, values))))
    return found


def made_writings(inputs, size, many, seed, clauses=3):
    """Return so many writings, the same ones at each call, with up to so many clauses a part."""
    picks = random.Random(seed)
    own, twice = all_clauses(size, 4), all_clauses(2 * size, 3)
    found = []
    for _ in range(many):
        parts = []
        for name in PARTS:
            known = twice if name == 'nexts' else own
            parts.append(tuple(picks.sample(known, min(len(known), picks.randrange(clauses + 1)))))
        found.append((inputs, size, *parts))
    return found


def made_wishes(inputs, states, many, seed):
    """Return so many wishes with so many states, the same ones at each call."""
    picks = random.Random(seed)
    found = []
    for _ in range(many):
        steps = tuple(tuple(picks.randrange(states) for _ in range(2 ** inputs)) for _ in range(states))
        found.append((inputs, steps, tuple(picks.random() < 0.5 for _ in range(states))))
    return found
