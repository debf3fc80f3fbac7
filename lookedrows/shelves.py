"""Shelves: rules, tables and procedures under names, commands on them, and the answers to questions about them."""

from lookedrows.errors import (DuplicateName, Failed, Full, InvalidArguments, InvalidCommand, InvalidLimit, InvalidName,
                               NothingLeft, UnknownName, WrongKind)
from lookedrows.meetings import Exchanged, Woven
from lookedrows.procedures import Procedure
from lookedrows.questions import Again, Alike, Keeps, Never, Twice, Undone
from lookedrows.rules import Rules
from lookedrows.running import run
from lookedrows.tables import Table
from lookedrows.values import is_name, is_whole

# The number of parts of each command, with its word.
SIZES = {"enter": 3, "replace": 3, "run": 5, "drop": 2, "rename": 3}


def _kind_of(value):
    """The kind of an entry, or None for any other value."""
    if isinstance(value, Rules):
        return "rules"
    if isinstance(value, Table):
        return "table"
    return "procedure" if isinstance(value, Procedure) else None


def _is_command(value):
    """Whether any value is a command, whatever the names and numbers in it are."""
    if not isinstance(value, tuple) or not value or not isinstance(value[0], str):
        return False
    if len(value) != SIZES.get(value[0], 0):
        return False
    return value[0] not in ("enter", "replace") or _kind_of(value[2]) is not None


def _known_entry(entries, name):
    """The entry with a name; raises UnknownName(name)."""
    # The name may be any value, also one that no dict could be asked for.
    if not isinstance(name, str) or name not in entries:
        raise UnknownName(name)
    return entries[name]


def _entry_of_kind(entries, name, kind):
    """The entry of a kind with a name; raises UnknownName(name), WrongKind(name)."""
    entry = _known_entry(entries, name)
    if _kind_of(entry) != kind:
        raise WrongKind(name)
    return entry


def _check_new(entries, name):
    """Raises InvalidName(name), DuplicateName(name) if a new entry can't have this name."""
    if not is_name(name):
        raise InvalidName(name)
    if name in entries:
        raise DuplicateName(name)


def _check_room(entries, limit):
    """Raises Full(limit) if no entry can be added."""
    if len(entries) >= limit:
        raise Full(limit)


def _enter(entries, command, limit):
    _, name, entry = command
    _check_new(entries, name)
    _check_room(entries, limit)
    entries[name] = entry


def _replace(entries, command, limit):
    _, name, entry = command
    _entry_of_kind(entries, name, _kind_of(entry))
    entries[name] = entry


def _run(entries, command, limit):
    _, fresh, procedure, table, numbers = command
    _check_new(entries, fresh)
    _check_room(entries, limit)
    what = _entry_of_kind(entries, procedure, "procedure")
    where = _entry_of_kind(entries, table, "table")
    # What is no list is refused as wrong numbers are, behind columns that differ.
    given = numbers if isinstance(numbers, (list, tuple)) else [None]
    ending, behind = run(what, where, *given)
    if ending[0] == "failed":
        raise Failed(ending[1])
    entries[fresh] = behind


def _drop(entries, command, limit):
    _known_entry(entries, command[1])
    del entries[command[1]]


def _rename(entries, command, limit):
    _, name, fresh = command
    entry = _known_entry(entries, name)
    _check_new(entries, fresh)
    del entries[name]
    entries[fresh] = entry


COMMANDS = {"enter": _enter, "replace": _replace, "run": _run, "drop": _drop, "rename": _rename}


def _alike(procedures):
    return Alike(procedures[0], procedures[1])


def _keeps(procedures):
    return Keeps(procedures[0])


def _never(procedures):
    return Never(procedures[0])


def _twice(procedures):
    return Twice(procedures[0])


def _again(procedures):
    return Again(procedures[0])


def _undone(procedures):
    return Undone(procedures[0], procedures[1])


def _exchanged(procedures):
    return Exchanged(procedures[0], procedures[1])


def _woven(procedures):
    return Woven(procedures[0], procedures[1])


QUESTIONS = {"alike": _alike, "keeps": _keeps, "never": _never, "twice": _twice, "again": _again, "undone": _undone,
             "exchanged": _exchanged, "woven": _woven}
OF_TWO = ("alike", "undone", "exchanged", "woven")


class Shelf:
    """Entries by name. Each call of apply is one step, which can be undone and redone."""

    MOST = 40

    def __init__(self, *, limit=12):
        self._check_limit(limit)
        self._limit = limit
        # The dicts of entries are never changed: each step makes a new one.
        self._entries = {}
        self._before = []
        self._behind = []
        self._answers = {}
        self._computed = 0
        self._busy = False

    def _check_limit(self, limit):
        """Raises InvalidLimit(limit) for what is no limit."""
        if not is_whole(limit) or not 1 <= limit <= self.MOST:
            raise InvalidLimit(limit)

    @property
    def limit(self):
        """How many entries there may be."""
        return self._limit

    @limit.setter
    def limit(self, value):
        self._check_limit(value)
        if value < len(self):
            raise Full(len(self))
        self._limit = value

    def set_limit(self, value):
        """Sets the limit; raises InvalidLimit(value), Full(number of entries)."""
        self.limit = value

    @property
    def busy(self):
        """Whether commands are being applied."""
        return self._busy

    @property
    def computed(self):
        """How many answers were computed and kept."""
        return self._computed

    def apply(self, *commands):
        """Applies all commands as one step, or none if one raises an error."""
        for index, command in enumerate(commands):
            if not _is_command(command):
                raise InvalidCommand(index)
        if not commands:
            return
        entries = dict(self._entries)
        self._busy = True
        try:
            for command in commands:
                action = COMMANDS[command[0]]
                action(entries, command, self._limit)
        finally:
            self._busy = False
        self._before.append(self._entries)
        self._behind = []
        self._answers = {key: answer for key, answer in self._answers.items() if self._stays(key, entries)}
        self._entries = entries

    def _stays(self, key, entries):
        """Whether each entry that an answer is about stands under the same name among these, and is equal."""
        return all([name in entries and entries[name] == self._entries[name] for name in key[1:]])

    def undo(self):
        """Undoes the last step; raises NothingLeft()."""
        if not self._before:
            raise NothingLeft()
        self._behind.append(self._entries)
        self._entries = self._before.pop()
        self._answers = {}

    def redo(self):
        """Redoes the step that was undone last; raises NothingLeft()."""
        if not self._behind:
            raise NothingLeft()
        self._before.append(self._entries)
        self._entries = self._behind.pop()
        self._answers = {}

    def history(self):
        """The pair of the numbers of steps that can be undone and redone."""
        return len(self._before), len(self._behind)

    def names(self, *kinds):
        """The ascending list of the names of the entries of some kinds, or of all entries."""
        return sorted([name for name, entry in self._entries.items() if not kinds or _kind_of(entry) in kinds])

    def kind(self, name):
        """The kind of the entry with a name; raises UnknownName(name)."""
        return _kind_of(_known_entry(self._entries, name))

    def entry(self, name):
        """The entry with a name; raises UnknownName(name)."""
        return _known_entry(self._entries, name)

    def asked(self, word, rules, *procedures):
        """The verdict of a question about entries, which is kept."""
        if not isinstance(word, str) or word not in QUESTIONS:
            raise InvalidName(word)
        kept = _entry_of_kind(self._entries, rules, "rules")
        whom = [_entry_of_kind(self._entries, name, "procedure") for name in procedures]
        if len(whom) != (2 if word in OF_TWO else 1):
            raise InvalidArguments()
        key = (word, rules, *procedures)
        if key not in self._answers:
            make = QUESTIONS[word]
            self._answers[key] = make(whom).ask(kept)
            self._computed += 1
        return self._answers[key]

    def kept(self):
        """The ascending list of the tuples (word, rules, procedures ..) whose answers are kept."""
        return sorted(list(self._answers))

    def twin(self):
        """An independent shelf with the same entries, limit, steps, kept answers and number of computed ones."""
        shelf = Shelf(limit=self._limit)
        shelf._entries = self._entries
        shelf._before = list(self._before)
        shelf._behind = list(self._behind)
        shelf._answers = {key: answer for key, answer in self._answers.items()}
        shelf._computed = self._computed
        return shelf

    def take_over(self, entries):
        """Takes over entries by name in the place of its own, without a step."""
        self._entries = dict(entries)

    def __contains__(self, x):
        return isinstance(x, str) and x in self._entries

    def __len__(self):
        return len(self._entries)

    def __eq__(self, other):
        return isinstance(other, Shelf) and self._entries == other._entries

    def __repr__(self):
        return f"Shelf({len(self)} entries)"
