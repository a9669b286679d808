"""Short ways to make programs, their parts, entries and configurations."""

from wholepackets.rules import check

START = ("state", "start", None, ("go", "accept"))


def make(name="p", headers=(), meta=(), states=(START,), actions=(), tables=(), control=(), emits=()):
    """Return a program; without any parts it is valid."""
    lists = [list(part) for part in (headers, meta, states, actions, tables, control, emits)]
    return ("program", name, *lists)


def configured(program, **entries):
    """Return the configuration of a valid program; tables that are not named have no entries."""
    check(program)
    return (program, {part[1]: entries.get(part[1], []) for part in program[6]})


def header(name, *widths):
    """Return a header whose fields are called a, b, .., by their widths."""
    return ("header", name, list(zip("abcdefghijkl", widths)))


def state(name, extracts=None, way=("go", "accept")):
    """Return a state."""
    return ("state", name, extracts, way)


def select(field, rows=(), other="accept"):
    """Return the select of a state."""
    return ("select", field, list(rows), other)


def action(name, params=(), ops=()):
    """Return an action."""
    return ("action", name, list(params), list(ops))


def table(name, keys=(), uses=("a",), default=("a", []), size=16):
    """Return a table; its default is the action "a"."""
    return ("table", name, list(keys), list(uses), default, size)


def entry(keys=(), priority=0, name="a", args=()):
    """Return an entry with an action."""
    return ("entry", list(keys), priority, name, list(args))


def field(owner, name):
    """Return an operand that is a field."""
    return ("field", owner, name)


def num(number):
    """Return an operand that is a number."""
    return ("num", number)


def param(name):
    """Return an operand that is a parameter."""
    return ("param", name)
