"""Dead ends: whether following ends in one for each setting that cannot come true, and the tables that show it."""

from followrows.columns import all_columns, is_column
from followrows.integers import is_between
from followrows.right import check_fit
from followrows.settled import row_ends, row_moves, settled_ways
from followrows.ways import all_reached, bits_of, least_setting, nodes_of, wish_ways


def unseen_end(writing, wish):
    """Return the least setting that cannot come true and for which following does not end in a dead end, or None."""
    check_fit(writing, wish)
    letters = all_columns(wish[0])
    return least_setting([(settled_ways(writing), wish_ways(wish, letters))], letters, False)


def sees_ends(writing, wish):
    """Return whether a writing sees the dead ends of a wish."""
    return unseen_end(writing, wish) is None


class Net:
    """How the columns of settled rows, and the states that a wish can come to by their inputs, go on.

    A pair is a tuple (node, bits): the number of a column among all columns, and the bits of states.
    """

    def __init__(self, writing, wish):
        self.inputs, self.size = writing[:2]
        self.columns = all_columns(self.size)
        self.numbers = {column: number for number, column in enumerate(self.columns)}
        # Behind those of the columns the nodes with which settled rows can begin.
        self.links = [nodes_of(bits) for bits in row_moves(writing, self.columns)]
        self.ends = row_ends(writing, self.columns)
        self.states = len(wish[2])
        self.ways = wish_ways(wish, all_columns(self.inputs))
        # What is ahead of the first column.
        self.begin = (len(self.columns), self.ways.begin)

    def states_behind(self, node, bits):
        """Return the bits of the states that the wish can come to from others by the inputs of a column."""
        return self.ways.onward((self.columns[node][:self.inputs], None), bits)

    def pairs_behind(self, pair):
        """Return the list of the pairs behind a pair."""
        node, bits = pair
        return [(link, self.states_behind(link, bits)) for link in self.links[node]]

    def can_end(self, node):
        """Return whether a settled row can end with a column."""
        return self.ends >> node & 1 > 0

    def lets_pair(self, pair):
        """Return whether a pair may be there."""
        node, bits = pair
        return not self.can_end(node) or self.ways.can_end(bits)


def states_of(bits):
    """Return the ascending tuple of the states of some bits."""
    return tuple(nodes_of(bits))


def ends_told(net, pairs):
    """Return the table of ends with some pairs, ascending."""
    told = sorted([(node, states_of(bits)) for node, bits in pairs])
    return [(net.columns[node], states) for node, states in told]


def ends_reached(net):
    """Return the list of all pairs that must be there in a table of ends."""
    return all_reached(net.pairs_behind(net.begin), lambda pair: net.pairs_behind(pair))


def ends_table(writing, wish):
    """Return the table of ends with all pairs that must be there, or None if one must not be there."""
    # A pair that must not be there is that of a settled row, the inputs of which cannot come true.
    if not sees_ends(writing, wish):
        return None
    net = Net(writing, wish)
    return ends_told(net, ends_reached(net))


def is_states(many, thing):
    """Return whether an object is an ascending tuple of different states among so many."""
    if not isinstance(thing, tuple) or not all([is_between(0, many - 1, state) for state in thing]):
        return False
    return all([one < other for one, other in zip(thing, thing[1:])])


def is_ends_pair(net, thing):
    """Return whether an object can be a pair of a table of ends."""
    if not isinstance(thing, tuple) or len(thing) != 2:
        return False
    return is_column(net.size, thing[0]) and is_states(net.states, thing[1])


def pairs_shown(net, thing):
    """Return the list of the pairs of a table of ends, or None if an object is none."""
    if not isinstance(thing, list) or not all([is_ends_pair(net, pair) for pair in thing]):
        return None
    pairs = [(net.numbers[column], bits_of(states)) for column, states in thing]
    there = {pair: True for pair in pairs}
    needed = [new for pair in [net.begin] + pairs for new in net.pairs_behind(pair)]
    if len(there) < len(pairs) or not all([pair in there for pair in needed]):
        return None
    return pairs if all([net.lets_pair(pair) for pair in pairs]) else None


def shows_ends(writing, wish, thing):
    """Return whether an object is a table of ends."""
    check_fit(writing, wish)
    return pairs_shown(Net(writing, wish), thing) is not None
