"""Wishes: which words are wished, which settings can come true, and what is forced in them."""

from followrows.clauses import MOST_INPUTS
from followrows.columns import check_setting, check_word, full_columns, tells_at_least
from followrows.errors import InvalidMatch, InvalidWish, TooMany
from followrows.integers import check_between, is_between

MOST_STATES = 12
# How far the wishes that are made here can count.
MOST_COUNTED = 6


def is_steps(inputs, thing):
    """Return whether an object can be the steps of a wish of so many inputs."""
    if not isinstance(thing, tuple) or not 1 <= len(thing) <= MOST_STATES:
        return False
    many = len(full_columns(inputs))
    if not all([isinstance(behind, tuple) and len(behind) == many for behind in thing]):
        return False
    return all([is_between(0, len(thing) - 1, state) for behind in thing for state in behind])


def is_wish(thing):
    """Return whether an object is a wish."""
    if not isinstance(thing, tuple) or len(thing) != 3:
        return False
    inputs, steps, good = thing
    if not is_between(1, MOST_INPUTS, inputs) or not is_steps(inputs, steps):
        return False
    if not isinstance(good, tuple) or len(good) != len(steps):
        return False
    return all([isinstance(mark, bool) for mark in good])


def check_wish(thing):
    """Raise InvalidWish if an object is no wish."""
    if not is_wish(thing):
        raise InvalidWish("this is no wish")


def counting_steps(most):
    """Return the steps of the wishes that count how many True were read, up to so many."""
    return tuple([(state, state + 1) for state in range(most + 1)]) + ((most + 1, most + 1),)


def at_most(most):
    """Return the wish for words with at most so many True."""
    check_between(0, MOST_COUNTED, most)
    return 1, counting_steps(most), (True,) * (most + 1) + (False,)


def just(most):
    """Return the wish for words with just so many True."""
    check_between(0, MOST_COUNTED, most)
    return 1, counting_steps(most), (False,) * most + (True, False)


def apart(gap):
    """Return the wish for words in which no two True are as near as a gap, or nearer."""
    check_between(1, MOST_COUNTED, gap)
    too_near = gap + 1
    passing = [(state + 1, too_near) for state in range(1, gap)]
    steps = [(0, 1)] + passing + [(0, too_near), (too_near, too_near)]
    return 1, tuple(steps), (True,) * too_near + (False,)


def is_wished(wish, word):
    """Return whether a word is wished."""
    check_wish(wish)
    inputs, steps, good = wish
    check_word(inputs, word)
    columns = full_columns(inputs)
    state = 0
    for column in word:
        state = steps[state][columns.index(column)]
    return good[state]


def choices(inputs, least):
    """Return the list of the numbers of the full input columns that tell at least what a column tells."""
    return [number for number, column in enumerate(full_columns(inputs)) if tells_at_least(column, least)]


def states_ahead(wish, setting):
    """Return the list of the lists of states that can be come to ahead of each column, and behind the last one."""
    inputs, steps, _ = wish
    ahead = [[0]]
    for column in setting:
        numbers = choices(inputs, column)
        ahead.append(sorted({steps[state][number] for state in ahead[-1] for number in numbers}))
    return ahead


def good_among(good, states):
    """Return the list of those among states that are good."""
    return [state for state in states if good[state]]


def check_setting_of(wish, setting):
    """Raise InvalidWish or InvalidSetting if objects are no wish and no setting of as many inputs."""
    check_wish(wish)
    check_setting(wish[0], setting)


def can_come(wish, setting):
    """Return whether a setting can come true."""
    check_setting_of(wish, setting)
    return len(good_among(wish[2], states_ahead(wish, setting)[-1])) > 0


def common(columns):
    """Return the column that tells what full columns have in common."""
    return tuple([entries[0] if len(set(entries)) == 1 else None for entries in zip(*columns)])


def forced(wish, setting):
    """Return the setting with all forced entries told, or None if it cannot come true."""
    check_setting_of(wish, setting)
    inputs, steps, good = wish
    columns = full_columns(inputs)
    ahead = states_ahead(wish, setting)
    # The states behind a column from which the rest of a word can still come to a good one.
    hopeful = good_among(good, ahead[-1])
    if not hopeful:
        return None
    told = []
    for place in reversed(range(len(setting))):
        moves = [(state, number) for state in ahead[place] for number in choices(inputs, setting[place])]
        moves = [(state, number) for state, number in moves if steps[state][number] in hopeful]
        hopeful = sorted({state for state, number in moves})
        told.append(common([columns[number] for state, number in moves]))
    return told[::-1]


def check_match(one, other):
    """Raise InvalidWish or InvalidMatch if objects are no two wishes of as many inputs."""
    check_wish(one)
    check_wish(other)
    if one[0] != other[0]:
        raise InvalidMatch("these wishes have unlike numbers of inputs")


def pairs_behind(one, other, pair):
    """Return the list of the pairs of states behind a pair, one for each full input column in order."""
    return list(zip(one[1][pair[0]], other[1][pair[1]]))


def both(one, other):
    """Return the wish for the words that both of two wishes wish."""
    check_match(one, other)
    pairs = [(0, 0)]
    steps = []
    while len(steps) < len(pairs):
        behind = pairs_behind(one, other, pairs[len(steps)])
        for pair in behind:
            if pair not in pairs:
                pairs.append(pair)
        if len(pairs) > MOST_STATES:
            raise TooMany("words come to more pairs of states than a wish has")
        steps.append(tuple([pairs.index(pair) for pair in behind]))
    good = tuple([one[2][state] and other[2][mate] for state, mate in pairs])
    return one[0], tuple(steps), good


def parting_word(one, other):
    """Return the least word that just one of two wishes wishes, or None."""
    check_match(one, other)
    columns = full_columns(one[0])
    # The least words that come to pairs of states, and these pairs in the order of their words.
    least = {(0, 0): []}
    pairs = [(0, 0)]
    place = 0
    while place < len(pairs):
        word = least[pairs[place]]
        behind = pairs_behind(one, other, pairs[place])
        for column, pair in zip(columns, behind):
            if one[2][pair[0]] != other[2][pair[1]]:
                return word + [column]
            if pair not in least:
                least[pair] = word + [column]
                pairs.append(pair)
        place += 1
    return None
