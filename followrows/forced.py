"""All that is forced: whether following tells it, for each setting, and the tables that show it."""

from followrows.columns import all_columns, is_column
from followrows.ends import Net, ends_reached, ends_told, is_states, pairs_shown, states_of
from followrows.right import check_fit
from followrows.settled import settled_ways
from followrows.ways import all_reached, bits_of, least_setting, wish_ways


def unseen(writing, wish):
    """Return the least setting of which following does not see that it cannot come true, or all that is forced.

    None if there is no such setting.
    """
    check_fit(writing, wish)
    letters = all_columns(wish[0])
    # A value is forced if no wished word is left once it is barred, and it is told if no settled row is left then.
    return least_setting([(settled_ways(writing), wish_ways(wish, letters))], letters, True)


def sees_all(writing, wish):
    """Return whether a writing sees all of a wish."""
    return unseen(writing, wish) is None


# While a table is worked out, its triples are (node, one, other): a column's number, and the bits of states.

def marks_behind(net, pair):
    """Return the list of the triples of the columns behind a pair, for each input of theirs that is not told."""
    node, bits = pair
    found = []
    for link in net.links[node]:
        letter = net.columns[link][:net.inputs]
        for place in range(net.inputs):
            if letter[place] is None:
                told = [letter[:place] + (value,) + letter[place + 1:] for value in (False, True)]
                one, other = [net.ways.onward((inputs, None), bits) for inputs in told]
                found.append((link, one, other))
    return found


def triples_behind(net, triple):
    """Return the list of the triples behind a triple."""
    node, one, other = triple
    return [(link, net.states_behind(link, one), net.states_behind(link, other)) for link in net.links[node]]


def lets_triple(net, triple):
    """Return whether a triple may be there."""
    node, one, other = triple
    return not net.can_end(node) or net.ways.can_end(one) == net.ways.can_end(other)


def marks_begun(net, pairs):
    """Return the list of the triples that must be there because of a table of ends with some pairs."""
    return [triple for pair in [net.begin] + pairs for triple in marks_behind(net, pair)]


def all_table(writing, wish):
    """Return the table of all that must be there, or None if there is something that must not be there."""
    # What must not be there is of a settled row of which not all is seen.
    if not sees_all(writing, wish):
        return None
    net = Net(writing, wish)
    pairs = ends_reached(net)
    triples = all_reached(marks_begun(net, pairs), lambda triple: triples_behind(net, triple))
    marks = sorted([(node, states_of(one), states_of(other)) for node, one, other in triples])
    return ends_told(net, pairs), [(net.columns[node], one, other) for node, one, other in marks]


def is_triple(net, thing):
    """Return whether an object can be a triple of a table of all."""
    if not isinstance(thing, tuple) or len(thing) != 3 or not is_column(net.size, thing[0]):
        return False
    return is_states(net.states, thing[1]) and is_states(net.states, thing[2])


def are_marks(net, pairs, thing):
    """Return whether an object can stand as the marks beside a table of ends with some pairs."""
    if not isinstance(thing, list) or not all([is_triple(net, triple) for triple in thing]):
        return False
    triples = [(net.numbers[column], bits_of(one), bits_of(other)) for column, one, other in thing]
    there = {triple: True for triple in triples}
    needed = marks_begun(net, pairs) + [new for triple in triples for new in triples_behind(net, triple)]
    if len(there) < len(triples) or not all([triple in there for triple in needed]):
        return False
    return all([lets_triple(net, triple) for triple in triples])


def shows_all(writing, wish, thing):
    """Return whether an object is a table of all."""
    check_fit(writing, wish)
    if not isinstance(thing, tuple) or len(thing) != 2:
        return False
    net = Net(writing, wish)
    pairs = pairs_shown(net, thing[0])
    return pairs is not None and are_marks(net, pairs, thing[1])
