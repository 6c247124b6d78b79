"""Plain and slow ways to what the package says of settled rows, and to the tables that show something.

Nothing here calls the package: what it returns is held against this.
"""

import functools
import itertools

from tests.reference import (BOOLS, ENTRIES, all_rows, all_words, fillings, made_wishes, made_writings, placed_clauses,
                             slow_followed, slow_forced, wished_words)

# At most one, two, just one, none near another one, an even number: writings that see all of these wishes.
COUNTER = (1, 3, ((-3,),), ((-1, 2), (-3, 2)), ((-2, 5), (-3, 6), (-4, -2, 6), (-4, -3)), ())
JUST_ONE = (1, 2, ((-2, 1),), ((-1, 2),), ((-2, 4), (-3, -2), (-4, 2, 3)), ((2,),))
NEAR = (1, 1, (), (), ((-2, -1),), ())
NEAR_TWO = (1, 2, (), ((-1, 2),), ((-1, 4), (-3, -2)), ())
PARITY = (1, 2, ((-2, 1), (-1, 2)), (), ((-4, -3, -2), (-4, 2, 3), (-3, 2, 4), (-2, 3, 4)), ((-2,),))
# Right for at most one, but it does not see all.
SPLIT = (1, 3, (), ((-1, 2),), ((-2, 5), (-4, -2, 6), (-6, -4, -2)), ())
# Not right for at most one.
SHORT = (1, 2, (), ((-1, 2),), ((-3, -2),), ())
FREE = (1, 1, (), (), (), ())
NEVER = (1, 1, (), ((-1,), (1,)), (), ())
# Just one of two inputs in each column, and never the same one twice.
TURNS = (2, 2, (), ((-2, -1), (1, 2)), ((-3, -1), (-4, -2)), ())
ONE_OF_TWO = (2, 3, (), ((-3, -2, -1), (-3, 1, 2)), ((-3, 6),), ((3,),))
KNOWN = [COUNTER, JUST_ONE, NEAR, NEAR_TWO, PARITY, SPLIT, SHORT, FREE, NEVER]
KNOWN_TWO = [TURNS, ONE_OF_TWO, (2, 2, (), (), (), ())]

WISH_COUNTER = (1, ((0, 1), (1, 2), (2, 3), (3, 3)), (True, True, True, False))
WISH_ONE = (1, ((0, 1), (1, 2), (2, 2)), (True, True, False))
WISH_JUST_ONE = (1, ((0, 1), (1, 2), (2, 2)), (False, True, False))
WISH_NEAR = (1, ((0, 1), (0, 2), (2, 2)), (True, True, False))
WISH_NEAR_TWO = (1, ((0, 1), (2, 3), (0, 3), (3, 3)), (True, True, True, False))
WISH_EVEN = (1, ((0, 1), (1, 0)), (True, False))
EVERY = (1, ((0, 0),), (True,))
NO_WORD = (1, ((0, 0),), (False,))
WISHES = [WISH_COUNTER, WISH_ONE, WISH_JUST_ONE, WISH_NEAR, WISH_NEAR_TWO, WISH_EVEN, EVERY, NO_WORD]
WISH_TURNS = (2, ((3, 1, 2, 3), (3, 3, 2, 3), (3, 1, 3, 3), (3, 3, 3, 3)), (True, True, True, False))
WISHES_TWO = [WISH_TURNS, (2, ((0, 0, 0, 0),), (True,)), (2, ((0, 1, 1, 0), (1, 1, 1, 1)), (True, False))]

# Writings and wishes that fit so that the writing sees all of the wish.
SEEN_WHOLE = [(COUNTER, WISH_COUNTER), (JUST_ONE, WISH_JUST_ONE), (NEAR, WISH_NEAR), (NEAR_TWO, WISH_NEAR_TWO),
              (PARITY, WISH_EVEN), (FREE, EVERY), (NEVER, NO_WORD), (TURNS, WISH_TURNS)]

# A writing of three signs a column that has hundreds of standings.
HUNDREDS = (1, 3, ((-3,), (-2, 1), (-3, -2), (-3, 2), (-3, -1), (-2, 1, 3), (-3, 1)), (),
            ((-6, -4, 1), (-3, 1, 5), (-5, -4, -2), (-5, -1, 4), (-5, 1, 3), (-6, -2, 4), (2, 6), (-1, 6), (-5, 2, 6),
             (-4, -3, 5), (-4, -1, 6), (-5, 3, 6), (-6, -5, 3), (-5, 2, 3), (1, 2, 6), (-4, 1, 2)), ())
HUNDREDS_TWO = (2, 3, ((-2, 1), (-3, -2, -1), (1, 3)), (),
                ((-2, 6), (-5, -1, 4), (1, 4, 5), (-5, -4, -3), (-6, -3, 2), (-4, 3, 5), (-4, -1, 6), (3, 5, 6),
                 (-2, 4, 5), (-6, -5, 2), (-6, -5, -3)), ())


def groups(seed):
    """Return triples of writings, of wishes of as many inputs, and of a number of columns to go through with both."""
    one = KNOWN + made_writings(1, 1, 4, seed) + made_writings(1, 2, 8, seed + 1) + made_writings(1, 3, 5, seed + 2)
    wishes = WISHES + made_wishes(1, 2, 4, seed + 3) + made_wishes(1, 3, 4, seed + 4) + made_wishes(1, 12, 2, seed + 5)
    two = KNOWN_TWO + made_writings(2, 2, 6, seed + 6) + made_writings(2, 3, 3, seed + 7)
    wishes_two = WISHES_TWO + made_wishes(2, 2, 4, seed + 8) + made_wishes(2, 3, 3, seed + 9)
    return [(one, wishes, 4), (two, wishes_two, 2)]


def is_idle(clause, entries):
    """Return whether a clause has a true literal or at least two that are not told."""
    worths = [None if entries[abs(literal) - 1] is None else entries[abs(literal) - 1] == (literal > 0)
              for literal in clause]
    return True in worths or worths.count(None) >= 2


def columns(size):
    """Return the list of all columns of so many signs."""
    return list(itertools.product(ENTRIES, repeat=size))


def place_of(column):
    """Return what orders a column among others."""
    return [ENTRIES.index(entry) for entry in column]


def slow_is_settled(writing, row):
    """Return whether a row is settled, going through all its clauses."""
    for _, literals in placed_clauses(writing, len(row)):
        entries = [row[column][sign] for column, sign, _ in literals]
        clause = [number + 1 if value else -number - 1 for number, (_, _, value) in enumerate(literals)]
        if not is_idle(clause, entries):
            return False
    return True


def settled_beginnings(writing, many):
    """Return the list of all settled beginnings of so many columns."""
    without_last = writing[:5] + ((),)
    return [row for row in all_rows(writing[1], many) if slow_is_settled(without_last, row)]


def tells(row, least):
    """Return whether a row tells at least what another one of as many columns tells."""
    return all(told is None or entry is told for column, other in zip(row, least) for entry, told in zip(column, other))


def slow_standing(writing, row, beginnings=None):
    """Return the standing behind a beginning, going through all settled ones."""
    if beginnings is None:
        beginnings = settled_beginnings(writing, len(row))
    return sorted({other[-1] for other in beginnings if tells(other, row)}, key=place_of)


@functools.lru_cache(maxsize=None)
def slow_starts(writing):
    """Return the list of the columns with which settled beginnings begin."""
    return [column for column in columns(writing[1]) if all(is_idle(clause, column) for clause in writing[2] + writing[3])]


@functools.lru_cache(maxsize=None)
def slow_followers(writing, column):
    """Return the list of the columns that can stand behind a column in settled rows."""
    return [after for after in columns(writing[1]) if all(is_idle(clause, after) for clause in writing[3])
            and all(is_idle(clause, column + after) for clause in writing[4])]


@functools.lru_cache(maxsize=None)
def slow_is_end(writing, column):
    """Return whether a column is settled by the clauses of last."""
    return all(is_idle(clause, column) for clause in writing[5])


def settings_up_to(inputs, most):
    """Return the list of all settings of at most so many columns, ascending."""
    return [setting for many in range(1, most + 1) for setting in all_rows(inputs, many)]


def words_up_to(inputs, most):
    """Return the list of all words of at most so many columns, ascending."""
    return [word for many in range(1, most + 1) for word in all_words(inputs, many)]


def slow_written(writing, word):
    """Return whether a word is written, going through all its fillings."""
    return len(fillings(writing, word)) > 0


def slow_seen(writing, setting):
    """Return what a writing sees of a setting, or None."""
    inputs, size = writing[:2]
    left = slow_followed(writing, [column + (None,) * (size - inputs) for column in setting])
    return None if left is None else [column[:inputs] for column in left]


def lets_forced(setting, sight, told):
    """Return whether a sight of a setting is a dead end, or tells what is forced in it, each as it is forced."""
    if sight is None:
        return True
    if told is None:
        return False
    return all(entry is not None or forced is None or saw is forced
               for column, seen_column, forced_column in zip(setting, sight, told)
               for entry, saw, forced in zip(column, seen_column, forced_column))


def is_too_much(wish, setting, sight):
    """Return whether a setting can come true, but a sight of it is a dead end or otherwise than some wished word."""
    found = wished_words(wish, setting)
    return len(found) > 0 and (sight is None or any(not tells(word, sight) for word in found))


def sights(writing, most):
    """Return the list of the pairs of a setting of at most so many columns and what a writing sees of it."""
    return [(setting, slow_seen(writing, setting)) for setting in settings_up_to(writing[0], most)]


def all_forced(wish, most):
    """Return the list of the settings of at most so many columns with what is forced told, or None, in order."""
    return [slow_forced(wish, setting) for setting in settings_up_to(wish[0], most)]


def letters_of(column):
    """Return the list of the full input columns that tell at least as much, with their numbers among all."""
    return [(number, letter) for number, letter in enumerate(itertools.product(BOOLS, repeat=len(column)))
            if tells([letter], [column])]


@functools.lru_cache(maxsize=None)
def states_by(wish, states, column):
    """Return the ascending tuple of the states that a wish can come to by inputs from some states."""
    return tuple(sorted({wish[1][state][number] for state in states for number, _ in letters_of(column)}))


def has_good(wish, states):
    """Return whether one of some states is good."""
    return any(wish[2][state] for state in states)


def words_pairs_behind(writing, wish, columns_ahead, state):
    """Return the list of the pairs of a table of words behind one, of which the columns are None for the first ones."""
    found = []
    for number, letter in letters_of((None,) * writing[0]):
        if columns_ahead is None:
            told = slow_starts(writing)
        else:
            after = [column for ahead in columns_ahead for column in slow_followers(writing, ahead)]
            told = sorted(set(after), key=place_of)
        full = tuple(column for column in told if None not in column and column[:writing[0]] == letter)
        found.append((full, wish[1][state][number]))
    return found


def ends_pairs_behind(writing, wish, column, states):
    """Return the list of the pairs of a table of ends behind one, of which the column is None for the first ones."""
    after = slow_starts(writing) if column is None else slow_followers(writing, column)
    return [(other, states_by(wish, states, other[:writing[0]])) for other in after]


def marks_behind(writing, wish, column, states):
    """Return the list of the triples of a table of all that a pair of its ends asks for."""
    found = []
    after = slow_starts(writing) if column is None else slow_followers(writing, column)
    for other in after:
        told = other[:writing[0]]
        for place in range(writing[0]):
            if told[place] is None:
                sides = [told[:place] + (value,) + told[place + 1:] for value in BOOLS]
                found.append((other, *[states_by(wish, states, side) for side in sides]))
    return found


def triples_behind(writing, wish, column, states, others):
    """Return the list of the triples of a table of all behind one."""
    return [(other, states_by(wish, states, other[:writing[0]]), states_by(wish, others, other[:writing[0]]))
            for other in slow_followers(writing, column)]


def some_states(wish):
    """Return all ascending tuples of different states of a wish."""
    states = range(len(wish[1]))
    return [chosen for many in range(len(states) + 1) for chosen in itertools.combinations(states, many)]


def closed(begun, behind):
    """Return the list of all that is come to from some things, in the order in which it is come to."""
    found = {}
    waiting = list(begun)
    while waiting:
        thing = waiting.pop(0)
        if thing not in found:
            found[thing] = True
            waiting.extend(behind(*thing))
    return list(found)


def words_closed(writing, wish, pairs):
    """Return pairs of a table of words with all that follows from them."""
    return closed(pairs, lambda told, state: words_pairs_behind(writing, wish, told, state))


def ends_closed(writing, wish, pairs):
    """Return pairs of a table of ends with all that follows from them."""
    return closed(pairs, lambda column, states: ends_pairs_behind(writing, wish, column, states))


def marks_closed(writing, wish, triples):
    """Return triples of a table of all with all triples that follow from them."""
    return closed(triples, lambda *triple: triples_behind(writing, wish, *triple))


def slow_words_table(writing, wish):
    """Return the table of words, or None, pair by pair as words in their order come to them."""
    pairs = words_closed(writing, wish, words_pairs_behind(writing, wish, None, 0))
    wrong = any(any(slow_is_end(writing, column) for column in told) != wish[2][state] for told, state in pairs)
    return None if wrong else pairs


def ends_in_order(pairs):
    """Return pairs of a table of ends, ascending."""
    return sorted(pairs, key=lambda pair: (place_of(pair[0]), pair[1]))


def slow_ends(writing, wish):
    """Return the list of all pairs that must be in a table of ends."""
    return ends_closed(writing, wish, ends_pairs_behind(writing, wish, None, (0,)))


def is_good_end(writing, wish, column, states):
    """Return whether a pair may be in a table of ends."""
    return not slow_is_end(writing, column) or has_good(wish, states)


def is_good_mark(writing, wish, column, states, others):
    """Return whether a triple may be in a table of all."""
    return not slow_is_end(writing, column) or has_good(wish, states) == has_good(wish, others)


def slow_ends_table(writing, wish):
    """Return the table of ends, or None."""
    pairs = slow_ends(writing, wish)
    return ends_in_order(pairs) if all(is_good_end(writing, wish, *pair) for pair in pairs) else None


def marks_needed(writing, wish, pairs):
    """Return the list of the triples that pairs of ends ask for."""
    return [triple for pair in [(None, (0,))] + pairs for triple in marks_behind(writing, wish, *pair)]


def slow_all_table(writing, wish):
    """Return the table of all, or None."""
    ends = slow_ends_table(writing, wish)
    if ends is None:
        return None
    marks = marks_closed(writing, wish, marks_needed(writing, wish, ends))
    if not all(is_good_mark(writing, wish, *mark) for mark in marks):
        return None
    return ends, sorted(marks, key=lambda mark: (place_of(mark[0]), mark[1:]))


def changed(table):
    """Return lists that are like a list of tuples, with one of these left out, doubled, turned or a list."""
    found = [table[::-1], table[1:] + table[:1], tuple(table), list(map(list, table)), {pair: True for pair in table}]
    for place, pair in enumerate(table):
        rest = table[:place] + table[place + 1:]
        found += [rest, rest + [pair], [pair] + table, table + [pair], rest + [pair[::-1]], rest + [list(pair)],
                  rest + [pair + pair[-1:]], rest + [pair[:-1]]]
        for at, part in enumerate(pair):
            if part.__class__ is tuple:
                found += [rest + [pair[:at] + (other,) + pair[at + 1:]]
                          for other in (list(part), part[::-1], part + part, part[1:], part[:-1], (part,), ())]
    return found


def is_column(size, thing):
    """Return whether an object is a column of so many signs."""
    return thing.__class__ is tuple and len(thing) == size and all(repr(entry) in ('None', 'True', 'False')
                                                                  for entry in thing)


def is_state(wish, thing):
    """Return whether an object is a state of a wish."""
    return thing.__class__ is int and 0 <= thing < len(wish[1])


def are_states(wish, thing):
    """Return whether an object is an ascending tuple of different states of a wish."""
    return (thing.__class__ is tuple and all(is_state(wish, state) for state in thing)
            and list(thing) == sorted(set(thing)))


def are_full_columns(size, thing):
    """Return whether an object is an ascending tuple of different columns that tell all of so many signs."""
    return (thing.__class__ is tuple and all(is_column(size, column) and None not in column for column in thing)
            and list(thing) == sorted(set(thing)))


def is_list_of(thing, many, kinds):
    """Return whether an object is a list of different tuples of so many things, each of its kind."""
    if thing.__class__ is not list:
        return False
    for part in thing:
        if part.__class__ is not tuple or len(part) != many or not all(kind(at) for kind, at in zip(kinds, part)):
            return False
    return len(set(thing)) == len(thing)


def slow_shows_words(writing, wish, thing):
    """Return whether an object is a table of words."""
    kinds = [lambda told: are_full_columns(writing[1], told), lambda state: is_state(wish, state)]
    if not is_list_of(thing, 2, kinds):
        return False
    there = set(thing)
    for told, state in [(None, 0)] + thing:
        if not there.issuperset(words_pairs_behind(writing, wish, told, state)):
            return False
    return all(any(slow_is_end(writing, column) for column in told) == wish[2][state] for told, state in thing)


def slow_shows_ends(writing, wish, thing):
    """Return whether an object is a table of ends."""
    kinds = [lambda column: is_column(writing[1], column), lambda states: are_states(wish, states)]
    if not is_list_of(thing, 2, kinds):
        return False
    there = set(thing)
    for column, states in [(None, (0,))] + thing:
        if not there.issuperset(ends_pairs_behind(writing, wish, column, states)):
            return False
    return all(is_good_end(writing, wish, *pair) for pair in thing)


def slow_shows_all(writing, wish, thing):
    """Return whether an object is a table of all."""
    if thing.__class__ is not tuple or len(thing) != 2 or not slow_shows_ends(writing, wish, thing[0]):
        return False
    ends, marks = thing
    kinds = [lambda column: is_column(writing[1], column)] + [lambda states: are_states(wish, states)] * 2
    if not is_list_of(marks, 3, kinds):
        return False
    needed = marks_needed(writing, wish, ends) + [new for mark in marks for new in triples_behind(writing, wish, *mark)]
    return set(marks).issuperset(needed) and all(is_good_mark(writing, wish, *mark) for mark in marks)
