"""From a program to its written form (point 2.5)."""

from wholepackets.parsing import OPERATORS


def write_program(program):
    """Return the written form of a program."""
    _, name, headers, meta, states, actions, tables, control, emits = program
    lines = [f"program {name}"]
    for header in headers:
        lines.extend(header_lines(header))
    if meta:
        lines.extend(in_braces("meta", field_lines(meta)))
    lines.extend(in_braces("parser", [line for state in states for line in state_lines(state)]))
    for action in actions:
        lines.extend(action_lines(action))
    for table in tables:
        lines.extend(table_lines(table))
    lines.extend(in_braces("control", block_lines(control)))
    if emits:
        listed = ", ".join(emits)
        lines.append(f"emit {listed};")
    return "\n".join(lines) + "\n"


def in_braces(head, lines):
    """Return lines in braces, behind a head."""
    return [opening(head), *indented(lines), "}"]


def opening(head):
    """Return the line that opens a brace behind a head."""
    return head + " {"


def indented(lines):
    """Return lines as they stand inside braces."""
    return ["  " + line for line in lines]


def header_lines(header):
    """Return the lines of a header."""
    _, name, fields = header
    return in_braces(f"header {name}", field_lines(fields))


def field_lines(fields):
    """Return the lines of the fields of a header or of `meta`."""
    return [width_text(field) + ";" for field in fields]


def width_text(field):
    """Return a name and its width as they are written."""
    name, width = field
    return f"{name}: {width}"


def state_lines(state):
    """Return the lines of a state."""
    _, name, header, way = state
    lines = []
    if header is not None:
        lines.append(f"extract {header};")
    if way[0] == "go":
        lines.append(f"go {way[1]};")
    else:
        lines.extend(select_lines(way))
    return in_braces(f"state {name}", lines)


def select_lines(way):
    """Return the lines of a select."""
    _, field, rows, other = way
    lines = [row_text(row) for row in rows]
    lines.append(f"else -> {other};")
    return in_braces(f"select {field_text(field)}", lines)


def row_text(row):
    """Return the line of a row of a select."""
    value, mask, target = row
    if mask is None:
        return f"{value} -> {target};"
    return f"{value} & {mask} -> {target};"


def field_text(field):
    """Return a field as it is written."""
    owner, name = field
    return f"{owner}.{name}"


def action_lines(action):
    """Return the lines of an action."""
    _, name, params, operations = action
    listed = ", ".join([width_text(param) for param in params])
    lines = [operation_text(operation) for operation in operations]
    return in_braces(f"action {name}({listed})", lines)


def operation_text(operation):
    """Return the line of an operation."""
    word = operation[0]
    if word == "set":
        return f"{field_text(operation[1])} = {expression_text(operation[2])};"
    if word == "send":
        return f"send {expression_text(operation[1])};"
    if word == "drop":
        return "drop;"
    return f"{word} {operation[1]};"


def expression_text(expression):
    """Return an expression as it is written."""
    if expression[0] not in OPERATORS:
        return operand_text(expression)
    operator, first, second = expression
    return f"{operand_text(first)} {operator} {operand_text(second)}"


def operand_text(operand):
    """Return an operand as it is written."""
    if operand[0] == "field":
        return field_text((operand[1], operand[2]))
    return str(operand[1])


def table_lines(table):
    """Return the lines of a table."""
    _, name, keys, uses, default, size = table
    lines = [f"key {field_text(field)} {kind};" for field, kind in keys]
    lines.extend([f"use {action};" for action in uses])
    lines.append(default_text(default))
    lines.append(f"size {size};")
    return in_braces(f"table {name}", lines)


def default_text(default):
    """Return the line of the default of a table."""
    action, args = default
    listed = ", ".join([str(number) for number in args])
    return f"default {action}({listed});"


def block_lines(statements):
    """Return the lines of a list of statements."""
    return [line for statement in statements for line in statement_lines(statement)]


def statement_lines(statement):
    """Return the lines of a statement."""
    if statement[0] == "apply":
        return [f"apply {statement[1]};"]
    _, condition, then, other = statement
    lines = [opening(f"if {condition_text(condition)}"), *indented(block_lines(then))]
    if other:
        lines.append("} else {")
        lines.extend(indented(block_lines(other)))
    lines.append("}")
    return lines


def condition_text(condition):
    """Return the test of an `if` as it is written."""
    word = condition[0]
    if word == "not":
        return f"not {condition_text(condition[1])}"
    if word == "valid":
        return f"valid {condition[1]}"
    return f"{field_text(condition[1])} {word} {condition[2]}"
