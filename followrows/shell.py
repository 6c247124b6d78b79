"""The shell: writings, wishes and led rows by name, and lines of words that ask of them."""

from followrows.alike import parting
from followrows.ends import unseen_end
from followrows.errors import InvalidLine, InvalidName, UnknownName
from followrows.following import seen
from followrows.forced import unseen
from followrows.led import Led
from followrows.right import wrong_word
from followrows.spare import needless
from followrows.texts import format_columns, format_setting, is_number, parse_wish, parse_writing, setting_read
from followrows.toomuch import too_much
from followrows.wishes import can_come

LETTERS = "abcdefghijklmnopqrstuvwxyz"
LONGEST_NAME = 8
MOST_DIGITS = 9
DONE = "ok"
DEAD = "dead"
# How many words stand behind each first word.
REST = {
    "write": 2, "wish": 2, "seen": 2, "come": 2, "right": 2, "ends": 2, "all": 2, "sound": 2, "alike": 2,
    "needless": 1, "lead": 3, "tell": 4, "undo": 1, "row": 1, "names": 0,
}
VALUES = {"1": True, "0": False}


def check_name(word):
    """Raise InvalidName if a word is no name."""
    if not 1 <= len(word) <= LONGEST_NAME or not all([letter in LETTERS for letter in word]):
        raise InvalidName("this is no name")


def named(lot, name):
    """Return what stands under a name in one of the shell's lots; raise UnknownName if nothing does."""
    if name not in lot:
        raise UnknownName("nothing stands under this name")
    return lot[name]


def text_told(word):
    """Return the text that is written as one word."""
    return word.replace(",", " ").replace("/", "\n")


# What a word does not tell is None, and refused with the right error by what is asked with it.

def setting_told(inputs, word):
    """Return the setting of so many inputs that is written as one word, or None if it tells none."""
    return setting_read(inputs, word.replace(",", " "))


def number_told(word):
    """Return the integer that a word tells, or None if it tells none of as few digits as a line may have."""
    return int(word) if len(word) <= MOST_DIGITS and is_number(word) else None


def yes_or(setting):
    """Return the answer for a setting that shows the contrary, or None."""
    return "yes" if setting is None else format_setting(setting)


def put_writing(shell, name, word):
    """Put a writing under a name."""
    check_name(name)
    shell.writings[name] = parse_writing(text_told(word))
    return DONE


def put_wish(shell, name, word):
    """Put a wish under a name."""
    check_name(name)
    shell.wishes[name] = parse_wish(text_told(word))
    return DONE


def say_seen(shell, name, word):
    """Answer what a writing sees of a setting."""
    writing = named(shell.writings, name)
    sight = seen(writing, setting_told(writing[0], word))
    return DEAD if sight is None else format_setting(sight)


def say_come(shell, name, word):
    """Answer whether a setting can come true."""
    wish = named(shell.wishes, name)
    return "yes" if can_come(wish, setting_told(wish[0], word)) else "no"


def say_right(shell, name, other):
    """Answer whether a writing is right for a wish."""
    return yes_or(wrong_word(named(shell.writings, name), named(shell.wishes, other)))


def say_ends(shell, name, other):
    """Answer whether a writing sees the dead ends of a wish."""
    return yes_or(unseen_end(named(shell.writings, name), named(shell.wishes, other)))


def say_all(shell, name, other):
    """Answer whether a writing sees all of a wish."""
    return yes_or(unseen(named(shell.writings, name), named(shell.wishes, other)))


def say_sound(shell, name, other):
    """Answer whether a writing does not tell too much for a wish."""
    return yes_or(too_much(named(shell.writings, name), named(shell.wishes, other)))


def say_alike(shell, name, other):
    """Answer whether two writings are alike."""
    return yes_or(parting(named(shell.writings, name), named(shell.writings, other)))


def say_needless(shell, name):
    """Answer which clauses a writing does not need."""
    found = needless(named(shell.writings, name))
    return " ".join([f"{part}.{index}" for part, index in found]) if found else "none"


def put_led(shell, name, other, count):
    """Put a led row under a name."""
    check_name(name)
    shell.leds[name] = Led(named(shell.writings, other), number_told(count))
    return DONE


def tell_led(shell, name, column, sign, value):
    """Tell an entry of a led row, and answer how many entries followed."""
    led = named(shell.leds, name)
    told = led.tell(number_told(column), number_told(sign), VALUES.get(value))
    return DEAD if told is None else str(len(told))


def undo_led(shell, name):
    """Take the last entry that was told in a led row back."""
    named(shell.leds, name).undo()
    return DONE


def say_row(shell, name):
    """Answer what following leaves of a led row."""
    left = named(shell.leds, name).row
    return DEAD if left is None else format_columns(left)


def say_names(shell):
    """Answer which names there are."""
    lots = [sorted(lot) for lot in (shell.writings, shell.wishes, shell.leds)]
    return " / ".join([" ".join(names) if names else "-" for names in lots])


ACTIONS = {
    "write": put_writing, "wish": put_wish, "seen": say_seen, "come": say_come, "right": say_right, "ends": say_ends,
    "all": say_all, "sound": say_sound, "alike": say_alike, "needless": say_needless, "lead": put_led,
    "tell": tell_led, "undo": undo_led, "row": say_row, "names": say_names,
}


def line_words(line):
    """Return the list of the words of a line; raise InvalidLine if an object is none."""
    if not isinstance(line, str) or "\n" in line:
        raise InvalidLine("this is no string without line feeds")
    words = line.split(" ")
    if words[0] not in REST or len(words) - 1 != REST[words[0]] or "" in words:
        raise InvalidLine("this is none of the lines")
    return words


class Shell:
    """Writings, wishes and led rows by name."""

    def __init__(self):
        self.writings = {}
        self.wishes = {}
        self.leds = {}

    def run(self, line):
        """Execute a line and return its answer."""
        first, *rest = line_words(line)
        action = ACTIONS[first]
        return action(self, *rest)
