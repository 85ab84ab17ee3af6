"""A console that keeps systems by their names and answers rows."""

from trickfares.compare import most_dearer
from trickfares.errors import InvalidRow, UnknownName
from trickfares.fares import POINT, System
from trickfares.tricks import gain, TRICKS

LETTERS = "abcdefghijklmnopqrstuvwxyz"
LONGEST_NAME = 8

# What the words behind the first word of a row are.
FORMS = {
    "system": ("name",),
    "names": (),
    "show": ("name",),
    "cost": ("name", "history"),
    "trick": ("name", "trick"),
    "compare": ("name", "name"),
}


def _is_made_of(word, signs):
    return word != "" and all([sign in signs for sign in word])


def _fits(part, word):
    """Whether a word is a name, a history or a trick."""
    if part == "name":
        return _is_made_of(word, LETTERS) and len(word) <= LONGEST_NAME
    if part == "history":
        return _is_made_of(word, LETTERS + POINT)
    return word in TRICKS


def _have_a_form(words, has_text):
    """Whether a row with these words has a form; just that of a system goes on with a text behind a newline."""
    if words[0] not in FORMS or has_text != (words[0] == "system"):
        return False
    parts = FORMS[words[0]]
    return len(words) == len(parts) + 1 and all([_fits(part, word) for part, word in zip(parts, words[1:])])


def _bound_text(bound):
    """The text of a bound, or of none."""
    return "unbounded" if bound is None else str(bound)


class Console:
    """Keeps systems by names."""

    def __init__(self):
        self._systems = {}

    def answer(self, row):
        """Executes a row; returns its answer."""
        head, newline, text = row.partition("\n")
        words = head.split(" ")
        if not _have_a_form(words, newline != ""):
            raise InvalidRow(row)
        if words[0] == "system":
            self._systems[words[1]] = System.parse(text)
            return "ok"
        if words[0] == "names":
            return " ".join(sorted(self._systems)) if self._systems else "none"
        return self._answer_about(words)

    def _answer_about(self, words):
        """The answer of a row about systems that are kept."""
        system = self._named(words[1])
        if words[0] == "show":
            return str(system)
        if words[0] == "cost":
            return str(system.cost(words[2]))
        if words[0] == "trick":
            return _bound_text(gain(system, words[2]))
        return _bound_text(most_dearer(system, self._named(words[2])))

    def _named(self, name):
        """The system with a name."""
        if name not in self._systems:
            raise UnknownName(name)
        return self._systems[name]
