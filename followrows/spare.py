"""Spare clauses: those that a writing does not need, and the least ones to add so that it sees all."""

from followrows.alike import sees_more
from followrows.clauses import check_writing, is_writing
from followrows.errors import InvalidMenu, UnknownClause
from followrows.following import PARTS, PARTS_FROM, part_of
from followrows.forced import sees_all
from followrows.integers import is_between
from followrows.right import check_fit

MOST_ON_MENU = 4


def with_part(writing, name, part):
    """Return a writing with another part in the place of one, told by its name."""
    place = PARTS_FROM + PARTS.index(name)
    return writing[:place] + (part,) + writing[place + 1:]


def without(writing, part, index):
    """Return a writing without the clause with an index of a part, told by its name."""
    check_writing(writing)
    if part not in PARTS or not is_between(0, len(part_of(writing, part)) - 1, index):
        raise UnknownClause("there is no such clause")
    clauses = part_of(writing, part)
    return with_part(writing, part, clauses[:index] + clauses[index + 1:])


def needless(writing):
    """Return the list of the tuples (part, index) of the clauses without which a writing is alike."""
    check_writing(writing)
    found = [(name, index) for name in PARTS for index in range(len(part_of(writing, name)))]
    # With fewer clauses it never sees more.
    return [(name, index) for name, index in found if sees_more(without(writing, name, index), writing)]


def added(writing, menu):
    """Return a writing with the clauses of a list of tuples (part, clause) behind those of their parts."""
    for name, clause in menu:
        writing = with_part(writing, name, part_of(writing, name) + (clause,))
    return writing


def is_menu(writing, thing):
    """Return whether an object is a menu of a writing."""
    if not isinstance(thing, list) or len(thing) > MOST_ON_MENU:
        return False
    if not all([isinstance(choice, tuple) and len(choice) == 2 and choice[0] in PARTS for choice in thing]):
        return False
    # A clause that would stand in a part twice makes it none.
    return is_writing(added(writing, thing))


def check_menu(writing, thing):
    """Raise InvalidMenu if an object is no menu of a writing."""
    if not is_menu(writing, thing):
        raise InvalidMenu("this is no menu of the writing")


def with_all(writing, menu):
    """Return a writing with the clauses of a menu behind those of their parts, in order."""
    check_writing(writing)
    check_menu(writing, menu)
    return added(writing, menu)


def sublists(many):
    """Return the list of all ascending lists of different indexes below a number, shorter ones first."""
    found = [[]]
    for index in range(many):
        found = found + [chosen + [index] for chosen in found]
    return sorted(found, key=len)


def least_additions(writing, wish, menu):
    """Return the ascending list of the lists of indexes of a menu that are least so that a writing sees all."""
    check_fit(writing, wish)
    check_menu(writing, menu)
    least = []
    for chosen in sublists(len(menu)):
        # With more clauses it sees all as well, so that a list with all of a shorter one has some to spare.
        spare = any([all([index in chosen for index in known]) for known in least])
        if not spare and sees_all(added(writing, [menu[index] for index in chosen]), wish):
            least.append(chosen)
    return sorted(least)
