"""The parts of a program, and how they are found (point 0.4)."""

from wholepackets.bits import fits
from wholepackets.parsing import OPERATORS

PORT = ("packet", "port")
PORT_WIDTH = 3


def headers_of(program):
    """Return the headers of a program."""
    return program[2]


def meta_of(program):
    """Return the fields of `meta` of a program."""
    return program[3]


def states_of(program):
    """Return the states of a program."""
    return program[4]


def actions_of(program):
    """Return the actions of a program."""
    return program[5]


def tables_of(program):
    """Return the tables of a program."""
    return program[6]


def control_of(program):
    """Return the control of a program."""
    return program[7]


def emits_of(program):
    """Return the names of the headers that a program emits."""
    return program[8]


def names_of(parts):
    """Return the names of headers, states, actions or tables."""
    return [part[1] for part in parts]


def part_named(parts, name):
    """Return the header, state, action or table with a name, or None."""
    for part in parts:
        if part[1] == name:
            return part
    return None


def fields_of(program, owner):
    """Return the fields of a header or of `meta`, or an empty list without such an owner."""
    if owner == "meta":
        return meta_of(program)
    header = part_named(headers_of(program), owner)
    if header is None:
        return []
    return header[2]


def field_width(program, field):
    """Return the width of a field, or None if it does not exist."""
    if field == PORT:
        return PORT_WIDTH
    owner, name = field
    for other, width in fields_of(program, owner):
        if other == name:
            return width
    return None


def operands_of(expression):
    """Return the list of the operands of an expression."""
    if expression[0] in OPERATORS:
        return [expression[1], expression[2]]
    return [expression]


def args_fit(params, args):
    """Tell if each argument has at most as many bits as its parameter."""
    return all([fits(arg, width) for (_, width), arg in zip(params, args)])


def all_statements(statements):
    """Return statements and those inside them, in the order of the text."""
    found = []
    for statement in statements:
        found.append(statement)
        if statement[0] == "if":
            found.extend(all_statements(statement[2]))
            found.extend(all_statements(statement[3]))
    return found


def plain_test(test):
    """Return the pair of a test without each "not" and whether they turn it round."""
    turned = False
    while test[0] == "not":
        test = test[1]
        turned = not turned
    return (test, turned)
