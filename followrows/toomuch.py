"""Too much: whether following tells what some wished word has otherwise."""

from followrows.columns import all_columns
from followrows.right import check_fit
from followrows.settled import settled_ways
from followrows.ways import least_setting, wish_ways


def too_much(writing, wish):
    """Return the least setting that can come true of which following tells too much, or None.

    It does so if it ends in a dead end, or tells an input otherwise than some wished word that fits.
    """
    check_fit(writing, wish)
    letters = all_columns(wish[0])
    # Following tells a value, or ends in a dead end, if no settled row is left once this value is barred.
    return least_setting([(wish_ways(wish, letters), settled_ways(writing))], letters, True)


def is_sound(writing, wish):
    """Return whether a writing does not tell too much for a wish."""
    return too_much(writing, wish) is None
