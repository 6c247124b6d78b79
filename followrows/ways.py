"""Ways along settings, from nodes to nodes by each input column, and the least setting that parts two of them.

Several nodes at once are kept as the bits of an integer, node 0 as its lowest bit.
"""

from followrows.columns import full_columns, tells_at_least

# A label is a tuple (letter, bar): letter is an input column, bar a tuple (place, value) or None. It lets columns
# that tell at least what the letter tells, but none of which the entry at this place has this value.


def barring(letter):
    """Return the list of the labels of an input column that bar a value of an entry that it does not tell."""
    return [(letter, (place, value)) for place, entry in enumerate(letter) if entry is None for value in (False, True)]


def labels_of(letters):
    """Return the list of all labels of some input columns."""
    return [(letter, None) for letter in letters] + [label for letter in letters for label in barring(letter)]


def lets(label, column):
    """Return whether a label lets a column, of which only the inputs matter."""
    letter, bar = label
    return tells_at_least(column, letter) and (bar is None or column[bar[0]] != bar[1])


def bits_of(nodes):
    """Return the bits of a list of different nodes."""
    return sum([1 << node for node in nodes])


def nodes_of(bits):
    """Return the ascending list of the nodes of some bits."""
    return [node for node in range(bits.bit_length()) if bits >> node & 1]


def union(moves, bits):
    """Return all the bits that a list of bits has at the nodes of some bits."""
    found = 0
    for node in nodes_of(bits):
        found |= moves[node]
    return found


class Ways:
    """Ways that begin at some nodes, go on by labels, and may end at some nodes."""

    def __init__(self, begin, moves, ends):
        self.begin = begin
        # From each label to the list of the bits behind each node.
        self.moves = moves
        self.ends = ends
        # What onward has worked out already: the same bits come again and again.
        self.known = {}

    def onward(self, label, bits):
        """Return the bits of the nodes behind those of some bits by a label."""
        if (label, bits) not in self.known:
            self.known[label, bits] = union(self.moves[label], bits)
        return self.known[label, bits]

    def can_end(self, bits):
        """Return whether a way may end at one of the nodes of some bits."""
        return bits & self.ends > 0


def wish_ways(wish, letters):
    """Return the ways of wished words along settings of some input columns; their nodes are the wish's states."""
    inputs, steps, good = wish
    moves = {}
    for label in labels_of(letters):
        numbers = [number for number, column in enumerate(full_columns(inputs)) if lets(label, column)]
        moves[label] = [bits_of(sorted({behind[number] for number in numbers})) for behind in steps]
    return Ways(1, moves, bits_of([state for state, mark in enumerate(good) if mark]))


def all_reached(begun, next_ones, enough=None):
    """Return the list of all things that are come to from some, in the order in which they are come to first.

    What next_ones returns for a thing is come to from it. Once there are enough things, no more are looked for.
    """
    known = {thing: True for thing in begun}
    found = list(known)
    place = 0
    while place < len(found) and (enough is None or len(found) < enough):
        things = next_ones(found[place])
        for thing in things:
            if thing not in known:
                known[thing] = True
                found.append(thing)
        place += 1
    return found


# A place of a search is a tuple (side, barred, lost, alive): the index of a side, whether an entry is barred already,
# and the bits of both of its ways, where the first ones (alive) should come to an end, and the others (lost) not.

def places_behind(sides, place, letter, may_bar):
    """Return the list of the places behind a place of a search by an input column."""
    side, barred, lost, alive = place
    some, none = sides[side]
    plain = (letter, None)
    found = [(side, barred, none.onward(plain, lost), some.onward(plain, alive))]
    if may_bar and not barred:
        for label in barring(letter):
            found.append((side, True, none.onward(label, lost), some.onward(label, alive)))
    return found


def is_shown(sides, place):
    """Return whether at a place the first ways of its side may end, and the others not."""
    side, _, lost, alive = place
    some, none = sides[side]
    return some.can_end(alive) and not none.can_end(lost)


def new_places(met, places):
    """Return the list of places without the nodes of first ways that were met with the same others before."""
    found = []
    for side, barred, lost, alive in places:
        before = met.get((side, barred, lost), 0)
        fresh = alive & ~before
        if fresh:
            met[side, barred, lost] = before | fresh
            found.append((side, barred, lost, fresh))
    return found


def least_setting(sides, letters, may_bar):
    """Return the least setting that shows a side, or None; a side is a pair of ways.

    The setting, of some input columns, shows the side if along it the first ways may come to an end, and the
    others not; if may_bar, also if that is so with one value barred for one entry that it does not tell.
    """
    met = {}
    begun = [(side, False, none.begin, some.begin) for side, (some, none) in enumerate(sides)]
    # All settings of as many columns that are gone on with, ascending, and their places.
    level = [([], begun)]
    while level:
        longer = []
        for setting, places in level:
            for letter in letters:
                behind = [new for place in places for new in places_behind(sides, place, letter, may_bar)]
                if any([is_shown(sides, place) for place in behind]):
                    return setting + [letter]
                behind = new_places(met, behind)
                if behind:
                    longer.append((setting + [letter], behind))
        level = longer
    return None
