"""The errors that the package raises, all of them below one base."""


class FollowError(ValueError):
    """What every error of the package is."""


class ParseError(FollowError):
    """A text has a line that cannot stand where it does."""

    def __init__(self, line):
        # The number stays out of the message: Python refuses to write very long ones.
        super().__init__("a line of the text cannot stand there")
        self.line = line


class AlreadyTold(FollowError):
    """An entry that should not be told yet is told."""


class InvalidClause(FollowError):
    """An object is no clause that can stand there."""


class InvalidColumn(FollowError):
    """An object is no column."""


class InvalidLine(FollowError):
    """An object is no line of the shell."""


class InvalidMatch(FollowError):
    """Two objects do not have as many inputs."""


class InvalidMenu(FollowError):
    """An object is no menu of a writing."""


class InvalidName(FollowError):
    """A word is no name."""


class InvalidNumber(FollowError):
    """An object is no integer in the range that is asked."""


class InvalidQuestion(FollowError):
    """An object is no question of a desk."""


class InvalidRow(FollowError):
    """An object is no row."""


class InvalidRuns(FollowError):
    """An object is no runs."""


class InvalidSetting(FollowError):
    """An object is no setting."""


class InvalidStanding(FollowError):
    """An object is no standing."""


class InvalidValue(FollowError):
    """An object is no value that can be told."""


class InvalidWish(FollowError):
    """An object is no wish."""


class InvalidWord(FollowError):
    """An object is no word."""


class InvalidWriting(FollowError):
    """An object is no writing."""


class IsDead(FollowError):
    """Following ends in a dead end."""


class NotTold(FollowError):
    """An entry that should be told is not."""


class NothingToUndo(FollowError):
    """There is nothing, or not as much, that can be taken back."""


class TooMany(FollowError):
    """There would be more than is allowed."""


class UnknownClause(FollowError):
    """There is no such clause."""


class UnknownEntry(FollowError):
    """There is no such entry."""


class UnknownName(FollowError):
    """Nothing stands under a name."""


class UnknownSign(FollowError):
    """There is no such sign."""
