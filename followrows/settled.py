"""Settled rows, in which following has nothing left to do, and the standings behind their beginnings."""

from followrows.clauses import check_writing
from followrows.columns import all_columns, check_column, is_ascending, is_column, tells_at_least
from followrows.errors import InvalidStanding, TooMany
from followrows.following import check_row_of, part_of
from followrows.integers import check_between
from followrows.ways import Ways, all_reached, bits_of, labels_of, lets, nodes_of, union

MOST_STANDINGS = 1000


def is_idle(clause, entries):
    """Return whether a clause has a true literal, or two that are not told, among the entries of its signs."""
    untold = 0
    for literal in clause:
        entry = entries[abs(literal) - 1]
        if entry is None:
            untold += 1
        elif entry == (literal > 0):
            return True
    return untold >= 2


def are_idle(part, entries):
    """Return whether the entries of one column, or of two neighbouring ones, are settled by the clauses of a part."""
    for clause in part:
        if not is_idle(clause, entries):
            return False
    return True


def is_settled(writing, row):
    """Return whether a row is settled."""
    check_row_of(writing, row)
    _, _, first, each, nexts, last = writing
    if not are_idle(first, row[0]) or not are_idle(last, row[-1]):
        return False
    if not all([are_idle(each, column) for column in row]):
        return False
    return all([are_idle(nexts, ahead + column) for ahead, column in zip(row, row[1:])])


def starts(writing):
    """Return the ascending list of the columns with which settled beginnings begin."""
    check_writing(writing)
    first, each = part_of(writing, "first"), part_of(writing, "each")
    return [column for column in all_columns(writing[1]) if are_idle(first + each, column)]


def check_column_of(writing, column):
    """Raise InvalidWriting or InvalidColumn if objects are no writing and no column of it."""
    check_writing(writing)
    check_column(writing[1], column)


def followers(writing, column):
    """Return the ascending list of the columns that are settled by each, and by nexts behind a column."""
    check_column_of(writing, column)
    return behind(writing, [column], (None,) * writing[1])


def is_end(writing, column):
    """Return whether a column is settled by the clauses of last."""
    check_column_of(writing, column)
    return are_idle(part_of(writing, "last"), column)


def row_moves(writing, columns):
    """Return the list of the bits of the columns that can stand behind each of some columns in settled rows.

    One item more tells those with which settled rows can begin.
    """
    _, _, first, each, nexts, _ = writing
    nodes = [node for node, column in enumerate(columns) if are_idle(each, column)]
    moves = [bits_of([node for node in nodes if are_idle(nexts, ahead + columns[node])]) for ahead in columns]
    return moves + [bits_of([node for node in nodes if are_idle(first, columns[node])])]


def row_ends(writing, columns):
    """Return the bits of those of some columns with which settled rows can end."""
    last = part_of(writing, "last")
    return bits_of([node for node, column in enumerate(columns) if are_idle(last, column)])


def row_ways(writing, columns, letters):
    """Return the ways of settled rows with some columns along settings of some input columns."""
    moves = row_moves(writing, columns)
    let_moves = {}
    for label in labels_of(letters):
        let = bits_of([node for node, column in enumerate(columns) if lets(label, column)])
        let_moves[label] = [bits & let for bits in moves]
    # The node behind those of the columns stands for the place ahead of the first column.
    return Ways(1 << len(columns), let_moves, row_ends(writing, columns))


def settled_ways(writing):
    """Return the ways of all settled rows of a writing along settings."""
    inputs, size = writing[:2]
    return row_ways(writing, all_columns(size), all_columns(inputs))


def columns_of(columns, bits):
    """Return the list of those of some columns that bits tell."""
    return [columns[node] for node in nodes_of(bits)]


def standing_of(writing, row):
    """Return the standing behind a beginning."""
    check_row_of(writing, row)
    columns = all_columns(writing[1])
    moves = row_moves(writing, columns)
    bits = 1 << len(columns)
    for least in row:
        fitting = [node for node, column in enumerate(columns) if tells_at_least(column, least)]
        bits = union(moves, bits) & bits_of(fitting)
    return columns_of(columns, bits)


def is_standing(size, thing):
    """Return whether an object is an ascending list of different columns of so many signs."""
    if not isinstance(thing, list) or not all([is_column(size, column) for column in thing]):
        return False
    return is_ascending(thing)


def behind(writing, standing, column):
    """Return the standing behind one column more than another standing."""
    check_writing(writing)
    _, size, _, each, nexts, _ = writing
    if not is_standing(size, standing):
        raise InvalidStanding("this is no standing of the writing")
    check_column(size, column)
    found = [told for told in all_columns(size) if tells_at_least(told, column) and are_idle(each, told)]
    return [told for told in found if any([are_idle(nexts, ahead + told) for ahead in standing])]


def standings(writing, limit):
    """Return the list of all standings behind beginnings of which no helper is told, by their least settings."""
    check_writing(writing)
    check_between(1, MOST_STANDINGS, limit)
    inputs, size = writing[:2]
    ways = settled_ways(writing)
    labels = [(letter, None) for letter in all_columns(inputs)]
    # One more than the standings: what is ahead of the first column is none.
    found = all_reached([ways.begin], lambda bits: [ways.onward(label, bits) for label in labels], limit + 2)
    if len(found) - 1 > limit:
        raise TooMany("there are more standings than the limit")
    columns = all_columns(size)
    return [columns_of(columns, standing) for standing in found[1:]]
