"""Led rows: rows of which entries are told one by one, with following behind each."""

from followrows.clauses import check_writing
from followrows.columns import MOST_COLUMNS
from followrows.courses import steps_up_to
from followrows.errors import AlreadyTold, InvalidValue, IsDead, NothingToUndo, NotTold, UnknownEntry
from followrows.following import columns_about, follow, follow_from, followed
from followrows.integers import check_between, is_between


def with_entry(row, column, sign, value):
    """Return a row with another value for an entry."""
    told = row[column]
    return row[:column] + [told[:sign - 1] + (value,) + told[sign:]] + row[column + 1:]


def entries_told(following):
    """Return the list of the entries (column, sign, value) that a following told, by columns, then by signs."""
    found = []
    for literal in sorted(following.literals, key=abs):
        column, place = divmod(abs(literal) - 1, following.size)
        found.append((column, place + 1, literal > 0))
    return found


class Led:
    """A row of a writing that is led."""

    def __init__(self, writing, many):
        check_writing(writing)
        check_between(1, MOST_COLUMNS, many)
        self.basis = writing
        self.many = many
        self.entries = []
        # What following leaves at first, and behind each entry that was told: a row that is never changed, or None.
        self.lefts = [followed(writing, self.bare_row())]

    def __len__(self):
        return len(self.entries)

    @property
    def row(self):
        """The row that following leaves, or None at a dead end."""
        left = self.lefts[-1]
        return None if left is None else list(left)

    @property
    def told(self):
        """The list of the entries told by tell, in order."""
        return list(self.entries)

    def bare_row(self):
        """Return the row in which nothing is told."""
        return [(None,) * self.basis[1] for _ in range(self.many)]

    def row_told(self):
        """Return the row in which just the entries told by tell are told."""
        row = self.bare_row()
        for column, sign, value in self.entries:
            row = with_entry(row, column, sign, value)
        return row

    def check_entry(self, column, sign):
        """Raise UnknownEntry if there is no such column or sign."""
        if not is_between(0, self.many - 1, column) or not is_between(1, self.basis[1], sign):
            raise UnknownEntry("there is no such column or sign")

    def live_row(self):
        """Return the row that following leaves; raise IsDead at a dead end."""
        if self.lefts[-1] is None:
            raise IsDead("the row is at a dead end")
        return self.lefts[-1]

    def tell(self, column, sign, value):
        """Tell an entry; return the list of the entries that following then tells in addition, None at a dead end."""
        self.check_entry(column, sign)
        if not isinstance(value, bool):
            raise InvalidValue("this is no bool")
        left = self.live_row()
        if left[column][sign - 1] is not None:
            raise AlreadyTold("the entry is told already")
        # Nothing is left to follow in the row so far, so that the entry alone can make more follow.
        following = follow_from(self.basis, with_entry(left, column, sign, value), columns_about(column))
        self.entries.append((column, sign, value))
        self.lefts.append(None if following.dead else following.columns_left())
        return None if following.dead else entries_told(following)

    def undo(self):
        """Take the last entry that was told by tell, and all that followed from it, back."""
        if not self.entries:
            raise NothingToUndo("no entry was told by tell")
        self.entries.pop()
        self.lefts.pop()

    def reason(self, column, sign):
        """Return a reason of an entry in the row in which just the entries told by tell are told."""
        self.check_entry(column, sign)
        if self.live_row()[column][sign - 1] is None:
            raise NotTold("the entry is not told")
        row = self.row_told()
        if row[column][sign - 1] is not None:
            raise AlreadyTold("the entry was told by tell")
        return steps_up_to(follow(self.basis, row), column, sign)

    def copy(self):
        """Return an independent led row in the same state."""
        twin = Led(self.basis, self.many)
        twin.entries = list(self.entries)
        twin.lefts = list(self.lefts)
        return twin
