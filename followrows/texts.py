"""Texts of writings, wishes and settings: writing and reading them."""

from followrows.clauses import MOST_INPUTS, MOST_SIGNS, is_writing
from followrows.columns import full_columns
from followrows.errors import ParseError
from followrows.following import PARTS, part_of
from followrows.spare import added
from followrows.wishes import MOST_STATES, is_wish

MARKS = {None: "?", False: "0", True: "1"}
ENTRIES_READ = {"?": None, "0": False, "1": True}
DIGITS = "0123456789"


def writing_heading(inputs, size):
    """Return the first line of a writing with so many inputs and signs."""
    return f"inputs {inputs} size {size}"


def wish_heading(inputs):
    """Return the first line of a wish of so many inputs."""
    return f"inputs {inputs}"


def line_of(word, numbers):
    """Return the line of a word and some integers behind it."""
    return " ".join([word] + [str(number) for number in numbers])


def format_writing(writing):
    """Return the text of a writing."""
    lines = [line_of(name, clause) for name in PARTS for clause in part_of(writing, name)]
    return "\n".join([writing_heading(writing[0], writing[1])] + lines)


def format_wish(wish):
    """Return the text of a wish."""
    inputs, steps, good = wish
    lines = [line_of("good" if mark else "bad", behind) for behind, mark in zip(steps, good)]
    return "\n".join([wish_heading(inputs)] + lines)


def format_columns(columns):
    """Return the text of columns, of any number of signs."""
    return " ".join(["".join([MARKS[entry] for entry in column]) for column in columns])


def format_setting(setting):
    """Return the text of a setting."""
    return format_columns(setting)


def lines_of(text):
    """Return the list of the lines of a text; raise ParseError if it is no string."""
    if not isinstance(text, str):
        raise ParseError(0)
    return text.split("\n")


def is_number(word):
    """Return whether a word is an integer from 0 on as texts have it."""
    if word == "" or not all([sign in DIGITS for sign in word]):
        return False
    return word == "0" or word[0] != "0"


def heading_read(line):
    """Return the tuple (inputs, size) that the first line of a writing tells, or None if it is none."""
    for inputs in range(1, MOST_INPUTS + 1):
        for size in range(inputs, MOST_SIGNS + 1):
            if line == writing_heading(inputs, size):
                return inputs, size
    return None


def literals_read(words):
    """Return the tuple of the literals that words tell, with None for each word that tells none."""
    # Clauses of nexts are of twice as many signs as columns have.
    literals = {str(literal): literal for literal in range(-2 * MOST_SIGNS, 2 * MOST_SIGNS + 1)}
    return tuple([literals.get(word) for word in words])


def with_line(writing, line):
    """Return a writing with the clause of a line behind its clauses, or None if the line cannot stand there."""
    words = line.split(" ")
    if words[0] not in PARTS:
        return None
    later = PARTS[PARTS.index(words[0]) + 1:]
    if any([len(part_of(writing, name)) > 0 for name in later]):
        return None
    longer = added(writing, [(words[0], literals_read(words[1:]))])
    return longer if is_writing(longer) else None


def parse_writing(text):
    """Return the writing that a text tells."""
    lines = lines_of(text)
    heading = heading_read(lines[0])
    if heading is None:
        raise ParseError(0)
    writing = heading + ((),) * len(PARTS)
    for number, line in enumerate(lines[1:], start=1):
        writing = with_line(writing, line)
        if writing is None:
            raise ParseError(number)
    return writing


def inputs_read(line):
    """Return the number of inputs that the first line of a wish tells, or None if it is none."""
    for inputs in range(1, MOST_INPUTS + 1):
        if line == wish_heading(inputs):
            return inputs
    return None


def state_read(word):
    """Return the state that a number tells, or one that no wish has."""
    # Python refuses to read very long numbers.
    return int(word) if len(word) <= len(str(MOST_STATES)) else MOST_STATES


def states_read(inputs, words):
    """Return the tuple of the states that words tell, one for each full input column, or None if they do not."""
    if len(words) != len(full_columns(inputs)) or not all([is_number(word) for word in words]):
        return None
    return tuple([state_read(word) for word in words])


def parse_wish(text):
    """Return the wish that a text tells."""
    lines = lines_of(text)
    inputs = inputs_read(lines[0])
    if inputs is None:
        raise ParseError(0)
    steps, good = [], []
    for number, line in enumerate(lines[1:], start=1):
        words = line.split(" ")
        behind = states_read(inputs, words[1:])
        if words[0] not in ("good", "bad") or behind is None or number > MOST_STATES:
            raise ParseError(number)
        steps.append(behind)
        good.append(words[0] == "good")
    wish = (inputs, tuple(steps), tuple(good))
    # What is still wrong is told by all lines together.
    if not is_wish(wish):
        raise ParseError(len(lines))
    return wish


def column_read(inputs, word):
    """Return the column of so many inputs that a word tells, or None if it tells none."""
    if len(word) != inputs or not all([mark in ENTRIES_READ for mark in word]):
        return None
    return tuple([ENTRIES_READ[mark] for mark in word])


def setting_read(inputs, text):
    """Return the setting of so many inputs that a string tells, or None if it tells none."""
    columns = [column_read(inputs, word) for word in text.split(" ")]
    return None if None in columns else columns


def parse_setting(inputs, text):
    """Return the setting of so many inputs that a text tells."""
    setting = setting_read(inputs, text) if isinstance(text, str) else None
    if setting is None:
        raise ParseError(0)
    return setting
