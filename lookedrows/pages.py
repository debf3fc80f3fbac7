"""Pages: shelves as texts."""

from lookedrows.errors import InvalidLine
from lookedrows.shelves import Shelf
from lookedrows.texts import (all_lines, procedure_in, procedure_text, rules_in, rules_text, table_in, table_text,
                              text_of)
from lookedrows.values import is_name

WRITERS = {"rules": rules_text, "table": table_text, "procedure": procedure_text}
READERS = {"rules": rules_in, "table": table_in, "procedure": procedure_in}


def write_page(shelf):
    """The page of a shelf."""
    texts = []
    for name in shelf.names():
        write = WRITERS[shelf.kind(name)]
        texts.extend([text_of([f"entry {name}"]), write(shelf.entry(name))])
    return "".join(texts)


def read_page(text):
    """The shelf with a page, with the limit 40 and without steps and kept answers; raises InvalidLine(index)."""
    lines = all_lines(text)
    entries = {}
    index = 0
    while index < len(lines):
        name = _entry_name(lines[index])
        if name is None or len(entries) == Shelf.MOST or (entries and name <= list(entries)[-1]):
            raise InvalidLine(index)
        end = _end_of_entry(lines, index + 1)
        entries[name] = _read_entry(lines[index + 1:end], index + 1)
        index = end
    shelf = Shelf(limit=Shelf.MOST)
    shelf.take_over(entries)
    return shelf


def _entry_name(line):
    """The name in a line that begins an entry, or None for any other line."""
    word, _, name = line.partition(" ")
    return name if word == "entry" and is_name(name) else None


def _end_of_entry(lines, start):
    """The index of the next line that begins an entry, or the number of lines."""
    for index in range(start, len(lines)):
        if _entry_name(lines[index]) is not None:
            return index
    return len(lines)


def _read_entry(lines, start):
    """The entry with some lines, of which the first one has this index in the page; raises InvalidLine(index)."""
    word = lines[0].split(" ")[0] if lines else ""
    if word not in READERS:
        raise InvalidLine(start)
    read = READERS[word]
    try:
        return read(lines)
    except InvalidLine as wrong:
        raise InvalidLine(start + wrong.index) from None
