"""Writings alike: whether two writings see the same of each setting."""

from followrows.clauses import check_writing
from followrows.columns import all_columns
from followrows.errors import InvalidMatch
from followrows.following import seen
from followrows.settled import settled_ways
from followrows.ways import least_setting


def check_alike(one, other):
    """Raise InvalidWriting or InvalidMatch if objects are no two writings of as many inputs."""
    check_writing(one)
    check_writing(other)
    if one[0] != other[0]:
        raise InvalidMatch("these writings have unlike numbers of inputs")


def parting(one, other):
    """Return the least setting of which two writings see unlike, or None."""
    check_alike(one, other)
    ways, other_ways = settled_ways(one), settled_ways(other)
    return least_setting([(ways, other_ways), (other_ways, ways)], all_columns(one[0]), True)


def are_alike(one, other):
    """Return whether two writings see the same of each setting."""
    return parting(one, other) is None


def sees_more(one, other):
    """Return whether a writing sees of each setting at least what another one sees."""
    check_alike(one, other)
    # What the other one tells and the first one does not is a value that only the other one cannot do without.
    return least_setting([(settled_ways(one), settled_ways(other))], all_columns(one[0]), True) is None


def is_closed(writing, setting):
    """Return whether a writing sees of a setting just what it tells."""
    return seen(writing, setting) == setting
