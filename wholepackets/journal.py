"""The journal of the accepted configurations (points 12.1 and 12.2)."""

from wholepackets.entries import is_entry
from wholepackets.errors import ChangeError
from wholepackets.images import build
from wholepackets.parsing import parse_program
from wholepackets.parts import names_of, part_named, tables_of
from wholepackets.rules import check


class Journal:
    """The list of the accepted configurations; a version is an index in it."""

    def __init__(self, text):
        self.accepted = [first_configuration(text)]

    def submit(self, change):
        """Make a change and return its version, or raise the error with which it is rejected."""
        self.accepted.append(changed(self.accepted[-1], change))
        return self.latest()

    def latest(self):
        """Return the last version."""
        return len(self.accepted) - 1

    def configuration(self, version):
        """Return the configuration of a version."""
        return self.accepted[version]


def first_configuration(text):
    """Return the configuration of a text without entries, if it is valid and can be built."""
    program = parse_program(text)
    check(program)
    configuration = (program, {name: [] for name in names_of(tables_of(program))})
    # The entries have no part in whether an image can be built.
    build(configuration)
    return configuration


def changed(configuration, change):
    """Return the configuration that a change makes of another one, or raise why it cannot."""
    word = change[0]
    if word == "program":
        return with_program(configuration, change[1])
    if word == "add":
        return with_entry(configuration, change[1], change[2])
    if word == "remove":
        return without_entry(configuration, change[1], change[2], change[3])
    for part in change[1]:
        configuration = changed(configuration, part)
    return configuration


def with_program(configuration, text):
    """Return the configuration of a text, with the entries that its tables keep."""
    _, old = configuration
    program, _ = first_configuration(text)
    entries = {}
    for _, name, _, _, _, size in tables_of(program):
        kept = [entry for entry in old.get(name, []) if is_entry(program, name, entry)]
        entries[name] = kept[:size]
    return (program, entries)


def with_entry(configuration, table, entry):
    """Return a configuration with one more entry of a table."""
    program, entries = configuration
    rows = rows_of(configuration, table)
    if not is_entry(program, table, entry):
        raise ChangeError("entry")
    _, keys, priority, _, _ = entry
    if place_of(rows, keys, priority) is not None:
        raise ChangeError("same")
    if len(rows) >= part_named(tables_of(program), table)[5]:
        raise ChangeError("full")
    return (program, {**entries, table: [*rows, entry]})


def without_entry(configuration, table, keys, priority):
    """Return a configuration without an entry of a table."""
    program, entries = configuration
    rows = rows_of(configuration, table)
    at = place_of(rows, keys, priority)
    if at is None:
        raise ChangeError("missing")
    return (program, {**entries, table: [*rows[:at], *rows[at + 1:]]})


def rows_of(configuration, table):
    """Return the list of the entries of a table, or raise ChangeError if it does not exist."""
    _, entries = configuration
    if table not in entries:
        raise ChangeError("table")
    return entries[table]


def place_of(rows, keys, priority):
    """Return the index of the entry with these keys and this priority, or None."""
    for at, (_, other, rank, _, _) in enumerate(rows):
        if other == keys and rank == priority:
            return at
    return None
