"""Words: which ones are written, and their fillings."""

from followrows.clauses import check_writing
from followrows.columns import check_setting, check_word, full_columns, tells_at_least
from followrows.following import part_of
from followrows.integers import check_between

# What all words that are listed at once may have, so that there are not too many.
MOST_ENTRIES = 12


def has_true(clause, entries):
    """Return whether a clause has a true literal among the entries of its signs."""
    return any([entries[abs(literal) - 1] == (literal > 0) for literal in clause])


def holds_all(part, entries):
    """Return whether each clause of a part has a true literal among the entries of its signs."""
    return all([has_true(clause, entries) for clause in part])


def links_of(writing):
    """Return the dict from each full column that breaks no clause of each to those that can stand behind it."""
    each, nexts = part_of(writing, "each"), part_of(writing, "nexts")
    columns = [column for column in full_columns(writing[1]) if holds_all(each, column)]
    return {column: [behind for behind in columns if holds_all(nexts, column + behind)] for column in columns}


# A layer is a dict from the columns that a filling can have at a place to the numbers of ways to come to them.

def first_layer(writing, links, least):
    """Return the layer of a first column that tells at least what another one tells."""
    first = part_of(writing, "first")
    return {column: 1 for column in links if tells_at_least(column, least) and holds_all(first, column)}


def next_layer(links, layer, least):
    """Return the layer behind another one, of a column that tells at least what another one tells."""
    fitting = {column: True for column in links if tells_at_least(column, least)}
    found = {}
    for column, ways in layer.items():
        for behind in links[column]:
            if behind in fitting:
                found[behind] = found.get(behind, 0) + ways
    return found


def last_layer(writing, layer):
    """Return what is left of a layer if its column is the last one."""
    last = part_of(writing, "last")
    return {column: ways for column, ways in layer.items() if holds_all(last, column)}


def layers_of(writing, links, setting):
    """Return the list of the layers of a setting, one for each of its columns."""
    layers = [first_layer(writing, links, setting[0])]
    for least in setting[1:]:
        layers.append(next_layer(links, layers[-1], least))
    layers[-1] = last_layer(writing, layers[-1])
    return layers


def check_word_of(writing, word):
    """Raise InvalidWriting or InvalidWord if objects are no writing and no word of as many inputs."""
    check_writing(writing)
    check_word(writing[0], word)


def is_written(writing, word):
    """Return whether a word is written."""
    return how_many(writing, word) > 0


def filling(writing, word):
    """Return a filling of a word, or None if there is none."""
    check_word_of(writing, word)
    links = links_of(writing)
    layers = layers_of(writing, links, word)
    if not layers[-1]:
        return None
    # From the last column on, since from there each layer leads back to the first column.
    row = [list(layers[-1])[0]]
    for layer in reversed(layers[:-1]):
        row.append([column for column in layer if row[-1] in links[column]][0])
    return row[::-1]


def how_many(writing, word):
    """Return how many fillings a word has."""
    check_word_of(writing, word)
    return sum(layers_of(writing, links_of(writing), word)[-1].values())


def has_filling(writing, setting):
    """Return whether a setting has a filling."""
    check_writing(writing)
    check_setting(writing[0], setting)
    return len(layers_of(writing, links_of(writing), setting)[-1]) > 0


def words(writing, many):
    """Return the list of the written words with so many columns, in order."""
    check_writing(writing)
    inputs = writing[0]
    check_between(1, MOST_ENTRIES // inputs, many)
    links = links_of(writing)
    columns = full_columns(inputs)
    begun = [([column], first_layer(writing, links, column)) for column in columns]
    for _ in range(many - 1):
        # Beginnings that have no filling are not gone on with.
        begun = [(word, layer) for word, layer in begun if layer]
        begun = [(word + [column], next_layer(links, layer, column)) for word, layer in begun for column in columns]
    return [word for word, layer in begun if last_layer(writing, layer)]
