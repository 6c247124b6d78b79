"""Lemmas: clauses that hold, or are followed, at all neighbouring columns of settled rows."""

from followrows.clauses import check_writing, is_clause
from followrows.columns import all_columns, full_columns
from followrows.errors import InvalidClause
from followrows.settled import is_idle, row_ends, row_moves
from followrows.ways import nodes_of


def check_lemma(writing, lemma):
    """Raise InvalidWriting or InvalidClause if objects are no writing and no lemma of it."""
    check_writing(writing)
    if not is_clause(2 * writing[1], lemma):
        raise InvalidClause("this is no lemma of the writing")


def is_broken(clause, entries):
    """Return whether all literals of a clause are false among the entries of its signs."""
    return all([entries[abs(literal) - 1] == (literal < 0) for literal in clause])


def shortest_paths(begun, links):
    """Return the dict from each node that is come to from some by links to a shortest list of nodes to it."""
    paths = {node: [node] for node in begun}
    waiting = list(begun)
    place = 0
    while place < len(waiting):
        node = waiting[place]
        for link in links[node]:
            if link not in paths:
                paths[link] = paths[node] + [link]
                waiting.append(link)
        place += 1
    return paths


def shortest_row(writing, columns, shows):
    """Return the shortest settled row with some columns that has two neighbouring ones that show something.

    It is a tuple with the number of the first of both, or None. What is asked whether they show it are their entries.
    """
    moves = row_moves(writing, columns)
    links = [nodes_of(bits) for bits in moves]
    nodes = list(range(len(columns)))
    back = [[ahead for ahead in nodes if moves[ahead] >> node & 1] for node in nodes]
    begins = shortest_paths(links[-1], links)
    ends = shortest_paths(nodes_of(row_ends(writing, columns)), back)
    pairs = [(ahead, link) for ahead in nodes for link in links[ahead] if ahead in begins and link in ends]
    pairs = [(ahead, link) for ahead, link in pairs if shows(columns[ahead] + columns[link])]
    if not pairs:
        return None
    first, second = min(pairs, key=lambda pair: len(begins[pair[0]]) + len(ends[pair[1]]))
    path = begins[first] + ends[second][::-1]
    return [columns[node] for node in path], len(begins[first]) - 1


def holds(writing, lemma):
    """Return whether a lemma is broken at no two neighbouring columns of a settled row that tells all signs."""
    return broken_at(writing, lemma) is None


def is_followed(writing, lemma):
    """Return whether a lemma is broken at no two neighbouring columns of any settled row."""
    check_lemma(writing, lemma)
    columns = all_columns(writing[1])
    return shortest_row(writing, columns, lambda entries: is_broken(lemma, entries)) is None


def is_kept(writing, lemma):
    """Return whether nothing more is followed with a lemma, at any two neighbouring columns of any settled row."""
    check_lemma(writing, lemma)
    columns = all_columns(writing[1])
    return shortest_row(writing, columns, lambda entries: not is_idle(lemma, entries)) is None


def broken_at(writing, lemma):
    """Return the tuple (row, column) of a shortest settled row that tells all signs and breaks a lemma, or None."""
    check_lemma(writing, lemma)
    columns = full_columns(writing[1])
    return shortest_row(writing, columns, lambda entries: is_broken(lemma, entries))
