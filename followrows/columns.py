"""Columns, rows, settings and words, and the order of settings."""

from followrows.clauses import check_writing
from followrows.errors import InvalidColumn, InvalidRow, InvalidSetting, InvalidWord

# How many columns there may be where more of them would take too long.
MOST_COLUMNS = 300
# What an entry can be, in the order of entries.
ENTRIES = (None, False, True)


def all_columns(size):
    """Return the list of all columns of so many signs, in order."""
    columns = [()]
    for _ in range(size):
        columns = [column + (entry,) for column in columns for entry in ENTRIES]
    return columns


def full_columns(size):
    """Return the list of the columns that tell all of so many signs, in order."""
    return [column for column in all_columns(size) if None not in column]


def tells_at_least(column, least):
    """Return whether a column tells at least what another one of as many signs, or fewer, tells."""
    return all([worth is None or entry == worth for entry, worth in zip(column, least)])


def is_entry(thing):
    """Return whether an object is True, False or None."""
    return thing is None or isinstance(thing, bool)


def is_column(size, thing):
    """Return whether an object is a column of so many signs."""
    if not isinstance(thing, tuple) or len(thing) != size:
        return False
    return all([is_entry(entry) for entry in thing])


def is_row(size, thing):
    """Return whether an object is a row of columns of so many signs."""
    if not isinstance(thing, list) or not thing:
        return False
    return all([is_column(size, column) for column in thing])


def is_setting(inputs, thing):
    """Return whether an object is a setting of so many inputs."""
    return is_row(inputs, thing)


def is_word(inputs, thing):
    """Return whether an object is a word of so many inputs."""
    return is_setting(inputs, thing) and not any([None in column for column in thing])


def check_column(size, thing):
    """Raise InvalidColumn if an object is no column of so many signs."""
    if not is_column(size, thing):
        raise InvalidColumn("this is no column of the writing")


def check_row(size, thing):
    """Raise InvalidRow if an object is no row of columns of so many signs."""
    if not is_row(size, thing):
        raise InvalidRow("this is no row of the writing")


def check_setting(inputs, thing):
    """Raise InvalidSetting if an object is no setting of so many inputs."""
    if not is_setting(inputs, thing):
        raise InvalidSetting("this is no setting of as many inputs")


def check_word(inputs, thing):
    """Raise InvalidWord if an object is no word of so many inputs."""
    if not is_word(inputs, thing):
        raise InvalidWord("this is no word of as many inputs")


def bare(writing, setting):
    """Return the row with the inputs of a setting and no helper told."""
    check_writing(writing)
    inputs, size = writing[:2]
    check_setting(inputs, setting)
    return [column + (None,) * (size - inputs) for column in setting]


def inputs_of(writing, row):
    """Return the setting that a row has."""
    check_writing(writing)
    inputs, size = writing[:2]
    check_row(size, row)
    return [column[:inputs] for column in row]


def ranks(column):
    """Return the list of the places of a column's entries in the order of entries."""
    return [ENTRIES.index(entry) for entry in column]


def is_ascending(columns):
    """Return whether each of some columns of as many signs is less than the one behind it."""
    places = [ranks(column) for column in columns]
    return all([one < other for one, other in zip(places, places[1:])])


def is_less(one, other):
    """Return whether a setting is less than another one of as many inputs."""
    if len(one) != len(other):
        return len(one) < len(other)
    return [ranks(column) for column in one] < [ranks(column) for column in other]
