"""Desks: lines about a shelf, and their answers."""

from lookedrows.errors import Missing, NothingLeft, TableError
from lookedrows.shelves import Shelf
from lookedrows.values import MOST_DIGITS, read_integer

UNKNOWN = "unknown"
DONE = "done"


def _names(shelf, words):
    return " ".join(shelf.names()) or "none"


def _kind(shelf, words):
    return shelf.kind(words[1])


def _ask(shelf, words):
    word, rules, procedures = words[1], words[2], words[3:]
    verdict = shelf.asked(word, rules, *procedures)
    return "yes" if verdict.holds else f"no {len(verdict.table)}"


def _run(shelf, words):
    numbers = [read_integer(word, MOST_DIGITS) for word in words[4:]]
    if None in numbers:
        return UNKNOWN
    shelf.apply(("run", words[1], words[2], words[3], numbers))
    return DONE


def _drop(shelf, words):
    shelf.apply(("drop", words[1]))
    return DONE


def _rename(shelf, words):
    shelf.apply(("rename", words[1], words[2]))
    return DONE


def _undo(shelf, words):
    shelf.undo()
    return DONE


def _redo(shelf, words):
    shelf.redo()
    return DONE


ANSWERS = {
    "names": _names, "kind": _kind, "ask": _ask, "run": _run, "drop": _drop, "rename": _rename, "undo": _undo,
    "redo": _redo,
}
# The number of words of each line, or the least one for lines that may have more words.
SIZES = {"names": 1, "kind": 2, "ask": 4, "run": 4, "drop": 2, "rename": 3, "undo": 1, "redo": 1}
LONGER = ("ask", "run")


class Desk:
    """Answers lines about a shelf."""

    def __init__(self, *, shelf=None):
        self._shelf = Shelf() if shelf is None else shelf
        self._log = []

    def say(self, line):
        """The answer to a line."""
        answer = self._answer(line.split(" "))
        self._log.append((line, answer))
        return answer

    def _answer(self, words):
        """The answer to a line of these words."""
        word = words[0]
        if word not in ANSWERS or len(words) < SIZES[word] or (len(words) > SIZES[word] and word not in LONGER):
            return UNKNOWN
        respond = ANSWERS[word]
        try:
            return respond(self._shelf, words)
        except (TableError, Missing, NothingLeft) as error:
            return f"error {error.code}"

    def shelf(self):
        """The shelf itself."""
        return self._shelf

    def log(self):
        """The list of the pairs (line, answer)."""
        return list(self._log)

    def __call__(self, line):
        return self.say(line)

    def __len__(self):
        return len(self._log)
