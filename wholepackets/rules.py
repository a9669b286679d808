"""The rules that a valid program keeps (points 3.1 and 3.2)."""

from wholepackets.bits import fits, within
from wholepackets.errors import RuleError
from wholepackets.parts import (
    PORT,
    actions_of,
    all_statements,
    args_fit,
    control_of,
    emits_of,
    field_width,
    headers_of,
    meta_of,
    names_of,
    operands_of,
    part_named,
    plain_test,
    states_of,
    tables_of,
)
from wholepackets.paths import is_parser
from wholepackets.tokens import LETTERS, LONGEST_NAME, in_run, is_reserved

MOST_HEADERS = 6
MOST_FIELDS = 8
GREATEST_WIDTH = 32
GREATEST_HEADER_WIDTH = 128
MOST_STATES = 8
MOST_ROWS = 8
MOST_ACTIONS = 8
MOST_PARAMS = 4
MOST_OPERATIONS = 8
MOST_TABLES = 8
MOST_KEYS = 4
MOST_USES = 8
GREATEST_SIZE = 16
MOST_STATEMENTS = 24


def check(program):
    """Raise RuleError with the name of the rule that decides, if the program is not valid."""
    check_names([program[1]])
    check_headers(program)
    meta = meta_of(program)
    demand(len(meta) <= MOST_FIELDS, "size")
    check_widths_and_names(meta)
    check_states(program)
    demand(is_parser(states_of(program)), "parser")
    check_actions(program)
    check_tables(program)
    check_control(program)
    check_emits(program)


def width_of(program, field):
    """Return the width of a field of a valid program."""
    return field_width(program, field)


def demand(holds, rule):
    """Raise RuleError with the name of a rule that does not hold."""
    if not holds:
        raise RuleError(rule)


def is_name(word):
    """Tell if a string is a name (point 0.2)."""
    if not 1 <= len(word) <= LONGEST_NAME or is_reserved(word):
        return False
    return word[0] in LETTERS and all(in_run(char) for char in word)


def check_name(names, at):
    """Check one of several names, which none of the earlier ones may equal."""
    demand(is_name(names[at]) and names[at] not in names[:at], "name")


def check_names(names):
    """Check several names, in order."""
    for at in range(len(names)):
        check_name(names, at)


def is_width(width):
    """Tell if a field or a parameter may have this width."""
    return 1 <= width <= GREATEST_WIDTH


def check_widths_and_names(pairs):
    """Check the fields of `meta` or parameters, each one's width before its name."""
    names = [name for name, _ in pairs]
    for at, (_, width) in enumerate(pairs):
        demand(is_width(width), "size")
        check_name(names, at)


def check_headers(program):
    """Check the headers, and behind each one the names of its fields."""
    headers = headers_of(program)
    demand(len(headers) <= MOST_HEADERS, "size")
    for at, (_, _, fields) in enumerate(headers):
        demand(len(fields) <= MOST_FIELDS, "size")
        demand(are_header_widths([width for _, width in fields]), "size")
        check_name(names_of(headers), at)
        check_names([name for name, _ in fields])


def are_header_widths(widths):
    """Tell if the fields of a header may have these widths."""
    total = sum(widths)
    if total % 8 != 0 or not 8 <= total <= GREATEST_HEADER_WIDTH:
        return False
    return all(is_width(width) for width in widths)


def check_states(program):
    """Check the states, each with its select."""
    states = states_of(program)
    demand(len(states) <= MOST_STATES, "size")
    for at, (_, _, header, way) in enumerate(states):
        rows = []
        if way[0] == "select":
            rows = way[2]
        demand(len(rows) <= MOST_ROWS, "size")
        check_name(names_of(states), at)
        demand(header is None or is_header(program, header), "field")
        if way[0] == "select":
            check_select(program, way)


def check_select(program, way):
    """Check the field of a select, and the values and masks of its rows."""
    _, field, rows, _ = way
    width = field_width(program, field)
    demand(width is not None, "field")
    demand(all(is_row(row, width) for row in rows), "value")


def is_row(row, width):
    """Tell if a row of a select fits a field of this width."""
    value, mask, _ = row
    if mask is None:
        return fits(value, width)
    return fits(value, width) and fits(mask, width) and within(value, mask)


def is_header(program, name):
    """Tell if a program has a header with a name."""
    return name in names_of(headers_of(program))


def check_actions(program):
    """Check the actions, and behind each one its parameters and operations."""
    actions = actions_of(program)
    demand(len(actions) <= MOST_ACTIONS, "size")
    for at, (_, _, params, operations) in enumerate(actions):
        demand(len(params) <= MOST_PARAMS, "size")
        demand(len(operations) <= MOST_OPERATIONS, "size")
        check_name(names_of(actions), at)
        check_widths_and_names(params)
        names = [name for name, _ in params]
        for operation in operations:
            demand(is_operation(program, names, operation), "field")


def is_operation(program, params, operation):
    """Tell if all exists that an operation refers to, and if it may be assigned."""
    word = operation[0]
    if word == "drop":
        return True
    if word == "send":
        return is_expression(program, params, operation[1])
    if word == "set":
        _, field, expression = operation
        if field == PORT or field_width(program, field) is None:
            return False
        return is_expression(program, params, expression)
    return is_header(program, operation[1])


def is_expression(program, params, expression):
    """Tell if all fields and parameters of an expression exist."""
    return all(is_operand(program, params, operand) for operand in operands_of(expression))


def is_operand(program, params, operand):
    """Tell if the field or the parameter exists that an operand is."""
    if operand[0] == "field":
        return field_width(program, (operand[1], operand[2])) is not None
    if operand[0] == "param":
        return operand[1] in params
    return True


def check_tables(program):
    """Check the tables, each with its keys, uses and default."""
    tables = tables_of(program)
    demand(len(tables) <= MOST_TABLES, "size")
    for at, (_, _, keys, uses, default, size) in enumerate(tables):
        demand(len(keys) <= MOST_KEYS, "size")
        demand(len(uses) <= MOST_USES, "size")
        demand(1 <= size <= GREATEST_SIZE, "size")
        check_name(names_of(tables), at)
        fields = [field for field, _ in keys]
        demand(all(field_width(program, field) is not None for field in fields), "field")
        check_default_values(program, default)
        demand(are_uses(program, uses), "table")
        demand(is_default(program, uses, default), "table")
        demand(not has_twice(fields), "table")
        kinds = [kind for _, kind in keys]
        demand(kinds.count("prefix") <= 1, "table")


def check_default_values(program, default):
    """Check the arguments of a default, if its action exists and takes as many."""
    name, args = default
    action = part_named(actions_of(program), name)
    if action is not None and len(args) == len(action[2]):
        demand(args_fit(action[2], args), "value")


def are_uses(program, uses):
    """Tell if the uses of a table are actions, each one once."""
    names = names_of(actions_of(program))
    return all(name in names for name in uses) and not has_twice(uses)


def is_default(program, uses, default):
    """Tell if a default has one of the uses of its table, and as many arguments as it takes."""
    name, args = default
    if name not in uses:
        return False
    return len(args) == len(part_named(actions_of(program), name)[2])


def has_twice(parts):
    """Tell if a list contains something twice."""
    return any([part in parts[:at] for at, part in enumerate(parts)])


def check_control(program):
    """Check the statements of the control, in the order of the text."""
    statements = all_statements(control_of(program))
    demand(len(statements) <= MOST_STATEMENTS, "size")
    tables = names_of(tables_of(program))
    applied = []
    for statement in statements:
        if statement[0] == "if":
            check_test(program, statement[1])
        else:
            name = statement[1]
            demand(name in tables and name not in applied, "control")
            applied.append(name)


def check_test(program, test):
    """Check the test of an `if`."""
    inner, _ = plain_test(test)
    if inner[0] == "valid":
        demand(is_header(program, inner[1]), "field")
    else:
        _, field, number = inner
        width = field_width(program, field)
        demand(width is not None, "field")
        demand(fits(number, width), "value")


def check_emits(program):
    """Check the names behind "emit"."""
    emits = emits_of(program)
    for at, name in enumerate(emits):
        demand(is_header(program, name), "field")
        demand(name not in emits[:at], "control")
