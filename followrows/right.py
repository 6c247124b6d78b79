"""Right writings: whether just the wished words are written, and the tables of words that show it."""

from followrows.clauses import check_writing
from followrows.columns import full_columns, is_ascending, is_column
from followrows.errors import InvalidMatch
from followrows.integers import is_between
from followrows.settled import columns_of, row_ways
from followrows.ways import all_reached, bits_of, least_setting, wish_ways
from followrows.wishes import check_wish


def check_fit(writing, wish):
    """Raise InvalidWriting, InvalidWish or InvalidMatch if objects are no writing and no wish of as many inputs."""
    check_writing(writing)
    check_wish(wish)
    if writing[0] != wish[0]:
        raise InvalidMatch("the writing and the wish have unlike numbers of inputs")


def filling_ways(writing):
    """Return the ways of the fillings of words along words."""
    inputs, size = writing[:2]
    return row_ways(writing, full_columns(size), full_columns(inputs))


def wrong_word(writing, wish):
    """Return the least word that is written or wished, but not both, or None."""
    check_fit(writing, wish)
    letters = full_columns(wish[0])
    written, wished = filling_ways(writing), wish_ways(wish, letters)
    return least_setting([(written, wished), (wished, written)], letters, False)


def is_right(writing, wish):
    """Return whether a writing is right for a wish."""
    return wrong_word(writing, wish) is None


# While a table is worked out, its pairs are (bits, state), with the bits of the columns among all full ones.

def pairs_behind(written, wish, pair):
    """Return the list of the pairs behind a pair, one for each full input column in order."""
    bits, state = pair
    letters = full_columns(wish[0])
    return [(written.onward((letter, None), bits), wish[1][state][number]) for number, letter in enumerate(letters)]


def words_table(writing, wish):
    """Return the table of words with all pairs that must be there, or None if one must not be there."""
    # A pair that must not be there is that of a word that is wrong.
    if wrong_word(writing, wish) is not None:
        return None
    written = filling_ways(writing)
    pairs = all_reached(pairs_behind(written, wish, (written.begin, 0)), lambda pair: pairs_behind(written, wish, pair))
    columns = full_columns(writing[1])
    return [(tuple(columns_of(columns, bits)), state) for bits, state in pairs]


def is_words_pair(size, states, thing):
    """Return whether an object can be a pair of a table of words."""
    if not isinstance(thing, tuple) or len(thing) != 2 or not is_between(0, states - 1, thing[1]):
        return False
    columns = thing[0]
    if not isinstance(columns, tuple) or not all([is_column(size, column) for column in columns]):
        return False
    return not any([None in column for column in columns]) and is_ascending(columns)


def shows_words(writing, wish, thing):
    """Return whether an object is a table of words."""
    check_fit(writing, wish)
    size, good = writing[1], wish[2]
    if not isinstance(thing, list) or not all([is_words_pair(size, len(good), pair) for pair in thing]):
        return False
    columns = full_columns(size)
    pairs = [(bits_of([columns.index(column) for column in told]), state) for told, state in thing]
    there = {pair: True for pair in pairs}
    written = filling_ways(writing)
    needed = [new for pair in [(written.begin, 0)] + pairs for new in pairs_behind(written, wish, pair)]
    if len(there) < len(pairs) or not all([pair in there for pair in needed]):
        return False
    return all([written.can_end(bits) == good[state] for bits, state in pairs])
