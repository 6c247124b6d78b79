"""Desks: a writing that is changed, and what it comes to for a wish, with answers that are kept."""

from followrows.clauses import is_writing
from followrows.columns import tells_at_least
from followrows.ends import unseen_end
from followrows.errors import InvalidClause, InvalidQuestion, NothingToUndo
from followrows.following import PARTS, seen
from followrows.forced import unseen
from followrows.integers import check_from_one
from followrows.right import check_fit
from followrows.spare import added, without
from followrows.toomuch import too_much
from followrows.wishes import forced

QUESTIONS = ("all", "ends", "sound")


def least_contrary(question, writing, wish):
    """Return the least setting that shows the contrary of what a question asks, or None."""
    if question == "ends":
        return unseen_end(writing, wish)
    return unseen(writing, wish) if question == "all" else too_much(writing, wish)


def tells_all(setting, least):
    """Return whether a setting tells at least what another one of as many columns tells."""
    return all([tells_at_least(column, told) for column, told in zip(setting, least)])


def shows_contrary(question, writing, wish, setting):
    """Return whether a setting shows the contrary of what a question asks."""
    sight, told = seen(writing, setting), forced(wish, setting)
    if question == "sound":
        return told is not None and (sight is None or not tells_all(told, sight))
    if sight is None or told is None:
        return sight is not None
    return question == "all" and not tells_all(sight, told)


def new_answer(answer):
    """Return an answer anew, so that a caller can change it."""
    return None if answer is None else list(answer)


class Desk:
    """A writing that is changed, and a wish."""

    def __init__(self, writing, wish):
        check_fit(writing, wish)
        self.held = writing
        self.wanted = wish
        # For each change that stands the writing ahead of it, and whether it put a clause there.
        self.changes = []
        self.answers = {}
        self.searched = 0

    def __len__(self):
        return len(self.changes)

    @property
    def writing(self):
        """The writing that the desk holds."""
        return self.held

    @property
    def wish(self):
        """The wish that the desk holds."""
        return self.wanted

    @property
    def searches(self):
        """How many times ask has searched."""
        return self.searched

    def stands(self, question, grows):
        """Return whether a kept answer stands behind a change, that put a clause there or took one away."""
        answer = self.answers[question]
        if answer is None:
            # With more clauses as much is seen or more, and too much as well.
            return not grows if question == "sound" else grows
        return shows_contrary(question, self.held, self.wanted, answer)

    def turn_to(self, writing, grows):
        """Hold another writing, with one clause more or one less, and drop the answers that do not stand any more."""
        self.held = writing
        self.answers = {question: answer for question, answer in self.answers.items() if self.stands(question, grows)}

    def add(self, part, clause):
        """Put a clause behind those of a part, told by its name."""
        longer = added(self.held, [(part, clause)]) if part in PARTS else None
        if not is_writing(longer):
            raise InvalidClause("this is no clause that can stand behind those of such a part")
        self.changes.append((self.held, True))
        self.turn_to(longer, True)

    def remove(self, part, index):
        """Take a clause of a part, told by its name, away."""
        shorter = without(self.held, part, index)
        self.changes.append((self.held, False))
        self.turn_to(shorter, False)

    def undo(self, *, steps=1):
        """Take the last changes, so many, back, the last one first."""
        check_from_one(steps)
        if steps > len(self.changes):
            raise NothingToUndo("there are fewer changes")
        for _ in range(steps):
            writing, grew = self.changes.pop()
            self.turn_to(writing, not grew)

    def ask(self, question):
        """Return None if what a question asks is so, and otherwise a setting that shows the contrary."""
        if question not in QUESTIONS:
            raise InvalidQuestion("this is no question")
        if question not in self.answers:
            self.answers[question] = least_contrary(question, self.held, self.wanted)
            self.searched += 1
        return new_answer(self.answers[question])

    def kept(self):
        """Return the dict from the questions whose answers are kept, ascending, to the answers."""
        return {question: new_answer(self.answers[question]) for question in sorted(self.answers)}

    def copy(self):
        """Return an independent desk in the same state."""
        twin = Desk(self.held, self.wanted)
        twin.changes = list(self.changes)
        # An answer that is kept is never changed.
        twin.answers = dict(self.answers)
        twin.searched = self.searched
        return twin
