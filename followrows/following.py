"""Following: what the clauses of a writing tell of a row, one step after the other."""

from followrows.clauses import check_writing
from followrows.columns import bare, check_row, inputs_of

# The parts of a writing, in order, and the place of the first one in it.
PARTS = ("first", "each", "nexts", "last")
PARTS_FROM = 2
# Stands for a literal where a clause is broken; no literal is 0.
BROKEN = 0


def part_of(writing, name):
    """Return a part of a writing, told by its name."""
    return writing[PARTS_FROM + PARTS.index(name)]


def is_there(name, many, column):
    """Return whether the clauses of a part are there at a column of a row of so many columns."""
    if name == "first":
        return column == 0
    if name == "last":
        return column == many - 1
    # The clauses of nexts need the column behind it, too.
    return name == "each" or column < many - 1


def steps_at(writing, many, column):
    """Return the list of the steps at a column of a row of so many columns."""
    names = [name for name in PARTS if is_there(name, many, column)]
    return [(name, index, column) for name in names for index in range(len(part_of(writing, name)))]


def columns_about(column):
    """Return the list of the columns at which steps may be left once an entry of a column is told."""
    # An entry stands in the clauses of its column, and in those of nexts ahead of it.
    return [place for place in (column - 1, column) if place >= 0]


class Following:
    """A row as things stand while it is followed, and the steps that were taken in it.

    Signs are numbered here as in the clauses of a whole row.
    """

    def __init__(self, writing, row):
        self.basis = writing
        self.size = writing[1]
        self.many = len(row)
        self.entries = [entry for column in row for entry in column]
        self.taken = []
        # Beside each step taken the literal that it told, or BROKEN.
        self.literals = []
        self.dead = False

    def literal_left(self, step):
        """Return the literal that a step tells, BROKEN if it breaks its clause, None if it does neither."""
        name, index, column = step
        ahead = column * self.size
        left = BROKEN
        for literal in part_of(self.basis, name)[index]:
            entry = self.entries[ahead + abs(literal) - 1]
            if entry == (literal > 0):
                return None
            if entry is None:
                if left != BROKEN:
                    return None
                left = literal + ahead if literal > 0 else literal - ahead
        return left

    def take(self, step):
        """Take a step that tells an entry or breaks its clause; return whether it is one."""
        literal = self.literal_left(step)
        # Behind a broken clause there are no more steps.
        if self.dead or literal is None:
            return False
        self.taken.append(step)
        self.literals.append(literal)
        if literal == BROKEN:
            self.dead = True
        else:
            self.entries[abs(literal) - 1] = literal > 0
        return True

    def is_done(self):
        """Return whether a clause is broken, or no step is left."""
        if self.dead:
            return True
        steps = [step for column in range(self.many) for step in steps_at(self.basis, self.many, column)]
        return all([self.literal_left(step) is None for step in steps])

    def take_all_at(self, column):
        """Take the steps at a column, each once if it can be; return the columns where others may now be left."""
        columns = []
        steps = steps_at(self.basis, self.many, column)
        for step in steps:
            if self.take(step):
                columns.extend(columns_about((abs(self.literals[-1]) - 1) // self.size))
        return columns

    def columns_left(self):
        """Return the list of the columns of the row as things stand."""
        starts = range(0, len(self.entries), self.size)
        return [tuple(self.entries[start:start + self.size]) for start in starts]


def follow_from(writing, row, columns):
    """Return the following of a row that has gone as long as it can, where steps are left at some columns alone."""
    following = Following(writing, row)
    waiting = list(columns)
    while waiting and not following.dead:
        column = waiting.pop()
        waiting.extend(following.take_all_at(column))
    return following


def follow(writing, row):
    """Return the following of a row that has gone as long as it can."""
    return follow_from(writing, row, list(range(len(row))))


def check_row_of(writing, row):
    """Raise InvalidWriting or InvalidRow if objects are no writing and no row of it."""
    check_writing(writing)
    check_row(writing[1], row)


def followed(writing, row):
    """Return the row that following leaves, or None for a dead end."""
    check_row_of(writing, row)
    following = follow(writing, row)
    return None if following.dead else following.columns_left()


def seen(writing, setting):
    """Return what a writing sees of a setting, or None for a dead end."""
    left = followed(writing, bare(writing, setting))
    return None if left is None else inputs_of(writing, left)
