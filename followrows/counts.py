"""Counts: how many words are written or wished, and how many settings are dead ends or cannot come true."""

from followrows.clauses import check_writing
from followrows.columns import MOST_COLUMNS, all_columns, full_columns
from followrows.integers import check_between
from followrows.right import filling_ways
from followrows.settled import settled_ways
from followrows.ways import wish_ways
from followrows.wishes import check_wish


def counted(ways, letters, many):
    """Return the dict from bits to the number of settings along which ways come to just these nodes.

    The settings have so many columns, each one of some input columns.
    """
    links = {}
    layer = {ways.begin: 1}
    for _ in range(many):
        longer = {}
        for bits, number in layer.items():
            if bits not in links:
                links[bits] = [ways.onward((letter, None), bits) for letter in letters]
            for behind in links[bits]:
                longer[behind] = longer.get(behind, 0) + number
        layer = longer
    return layer


def count_ended(ways, letters, many):
    """Return the number of settings, of so many out of some input columns, along which some way may end."""
    return sum([number for bits, number in counted(ways, letters, many).items() if ways.can_end(bits)])


def count_endless(ways, letters, many):
    """Return the number of settings, of so many out of some input columns, along which no way may end."""
    return sum([number for bits, number in counted(ways, letters, many).items() if not ways.can_end(bits)])


def check_writing_and_number(writing, many):
    """Raise InvalidWriting or InvalidNumber if objects are no writing and no number of columns."""
    check_writing(writing)
    check_between(1, MOST_COLUMNS, many)


def check_wish_and_number(wish, many):
    """Raise InvalidWish or InvalidNumber if objects are no wish and no number of columns."""
    check_wish(wish)
    check_between(1, MOST_COLUMNS, many)


def count_written(writing, many):
    """Return how many words with so many columns are written."""
    check_writing_and_number(writing, many)
    return count_ended(filling_ways(writing), full_columns(writing[0]), many)


def count_wished(wish, many):
    """Return how many words with so many columns are wished."""
    check_wish_and_number(wish, many)
    letters = full_columns(wish[0])
    return count_ended(wish_ways(wish, letters), letters, many)


def count_dead(writing, many):
    """Return for how many settings with so many columns following ends in a dead end."""
    check_writing_and_number(writing, many)
    # Following ends in a dead end where no settled row fits.
    return count_endless(settled_ways(writing), all_columns(writing[0]), many)


def count_lost(wish, many):
    """Return how many settings with so many columns cannot come true."""
    check_wish_and_number(wish, many)
    letters = all_columns(wish[0])
    return count_endless(wish_ways(wish, letters), letters, many)
