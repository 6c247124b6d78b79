"""Runs: what settings come to in which the same columns come again and again, so many times in a row."""

from followrows.clauses import check_writing
from followrows.columns import all_columns, is_column
from followrows.errors import InvalidRuns
from followrows.integers import check_between, is_between
from followrows.settled import columns_of, settled_ways
from followrows.ways import bits_of, union, wish_ways
from followrows.wishes import check_wish, common

MOST_RUNS = 100
# Of forty digits.
MOST_COUNT = 10 ** 40 - 1


def is_run(inputs, thing):
    """Return whether an object can be one of some runs of so many inputs."""
    if not isinstance(thing, tuple) or len(thing) != 2:
        return False
    return is_column(inputs, thing[0]) and is_between(1, MOST_COUNT, thing[1])


def check_runs(inputs, thing):
    """Raise InvalidRuns if an object is no runs of so many inputs."""
    if not isinstance(thing, list) or not 1 <= len(thing) <= MOST_RUNS:
        raise InvalidRuns("this is no list of as many runs as there can be")
    if not all([is_run(inputs, run) for run in thing]):
        raise InvalidRuns("this list has something that is no run of as many inputs")


class Strides:
    """Ways along runs, by strides that take the same input column 1, 2, 4, 8 and so on times at once.

    What strides go from and to are nodes, as the bits of integers; a stride is a tuple of the bits behind each node.
    """

    def __init__(self, ways):
        self.ways = ways
        # From each input column that came to its strides, the shortest one first.
        self.strides = {}
        # From each stride that was doubled to the one twice as long: the same ones come again and again.
        self.doubles = {}

    def double(self, stride):
        """Return the stride that is twice as long as another one."""
        if stride not in self.doubles:
            self.doubles[stride] = tuple([union(stride, bits) for bits in stride])
        return self.doubles[stride]

    def strides_for(self, letter, count):
        """Return the list of the strides that together take an input column so many times."""
        strides = self.strides.setdefault(letter, [tuple(self.ways.moves[letter, None])])
        while len(strides) < count.bit_length():
            strides.append(self.double(strides[-1]))
        return [stride for place, stride in enumerate(strides) if count >> place & 1]

    def onward(self, runs):
        """Return the bits of the nodes that ways come to along runs."""
        bits = self.ways.begin
        for letter, count in runs:
            for stride in self.strides_for(letter, count):
                bits = union(stride, bits)
        return bits

    def back(self, runs):
        """Return the bits of the nodes from which ways come to one where they may end along runs."""
        bits = self.ways.ends
        for letter, count in reversed(runs):
            for stride in self.strides_for(letter, count):
                bits = bits_of([node for node, behind in enumerate(stride) if behind & bits])
        return bits


def split_runs(runs, many):
    """Return the tuple of the runs for the first columns, so many, and of those for the others.

    Runs may come to nothing here: their counts are 0.
    """
    taken = []
    for _, count in runs:
        taken.append(min(count, many - sum(taken)))
    begun = [(letter, part) for (letter, _), part in zip(runs, taken)]
    return begun, [(letter, count - part) for (letter, count), part in zip(runs, taken)]


def run_told(writing, runs, place):
    """Return the column with a number that following of runs leaves, or None for a dead end."""
    check_writing(writing)
    inputs, size = writing[:2]
    check_runs(inputs, runs)
    check_between(0, sum([count for _, count in runs]) - 1, place)
    strides = Strides(settled_ways(writing))
    begun, others = split_runs(runs, place + 1)
    # Following leaves what the settled rows that fit have in common.
    columns = columns_of(all_columns(size), strides.onward(begun) & strides.back(others))
    return common(columns) if columns else None


def run_can_come(wish, runs):
    """Return whether runs can come true."""
    check_wish(wish)
    check_runs(wish[0], runs)
    ways = wish_ways(wish, all_columns(wish[0]))
    return ways.can_end(Strides(ways).onward(runs))
