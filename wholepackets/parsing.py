"""From a text to a program (points 2.1 to 2.4)."""

from wholepackets.reading import Reader
from wholepackets.tokens import tokenize

OPERATORS = ("+", "-", "&", "|", "^")
OWNER_WORDS = ("meta", "packet")
END_TARGETS = ("accept", "reject")
KEY_KINDS = ("exact", "mask", "prefix")
COMPARISONS = ("==", "<")
MOST_BLOCKS = 8
MOST_NOTS = 8


def parse_program(text):
    """Return the program of a text, or raise TextError."""
    reader = Reader(tokenize(text))
    reader.take("program")
    name = reader.take_name()
    headers = []
    while reader.skip("header"):
        headers.append(parse_header(reader))
    meta = []
    if reader.skip("meta"):
        meta = parse_fields(reader)
    reader.take("parser")
    states = parse_states(reader)
    actions = []
    while reader.skip("action"):
        actions.append(parse_action(reader))
    tables = []
    while reader.skip("table"):
        tables.append(parse_table(reader))
    reader.take("control")
    control = parse_block(reader, 0)
    emits = []
    if reader.skip("emit"):
        emits = parse_emits(reader)
    reader.check_end()
    return ("program", name, headers, meta, states, actions, tables, control, emits)


def parse_header(reader):
    """Return a header; its first word was passed."""
    name = reader.take_name()
    return ("header", name, parse_fields(reader))


def parse_fields(reader):
    """Return the list of the names and widths of fields in braces."""
    fields = []
    reader.take("{")
    while not reader.skip("}"):
        fields.append(parse_width(reader))
        reader.take(";")
    return fields


def parse_width(reader):
    """Return the pair of a name and a width."""
    name = reader.take_name()
    reader.take(":")
    return (name, reader.take_number())


def parse_states(reader):
    """Return the list of the states in the braces of the parser."""
    states = []
    reader.take("{")
    while not reader.skip("}"):
        states.append(parse_state(reader))
    return states


def parse_state(reader):
    """Return a state."""
    reader.take("state")
    name = reader.take_name()
    reader.take("{")
    header = None
    if reader.skip("extract"):
        header = reader.take_name()
        reader.take(";")
    way = parse_way(reader)
    reader.take("}")
    return ("state", name, header, way)


def parse_way(reader):
    """Return how a state continues."""
    if reader.skip("go"):
        target = parse_target(reader)
        reader.take(";")
        return ("go", target)
    reader.take("select")
    field = parse_field(reader)
    rows = []
    reader.take("{")
    while not reader.skip("else"):
        rows.append(parse_row(reader))
    return ("select", field, rows, parse_select_end(reader))


def parse_row(reader):
    """Return a row of a select."""
    value = reader.take_number()
    mask = None
    if reader.skip("&"):
        mask = reader.take_number()
    reader.take("->")
    target = parse_target(reader)
    reader.take(";")
    return (value, mask, target)


def parse_select_end(reader):
    """Return the other target of a select; the word "else" was passed."""
    reader.take("->")
    target = parse_target(reader)
    reader.take(";")
    reader.take("}")
    return target


def parse_target(reader):
    """Return the name of a state, "accept" or "reject"."""
    if reader.value() in END_TARGETS:
        return reader.take_one(END_TARGETS)
    return reader.take_name()


def parse_action(reader):
    """Return an action; its first word was passed."""
    name = reader.take_name()
    params = parse_params(reader)
    operations = []
    reader.take("{")
    while not reader.skip("}"):
        operations.append(parse_operation(reader))
    return ("action", name, params, operations)


def parse_params(reader):
    """Return the list of the names and widths of parameters in parentheses."""
    reader.take("(")
    if reader.skip(")"):
        return []
    params = [parse_width(reader)]
    while reader.skip(","):
        params.append(parse_width(reader))
    reader.take(")")
    return params


def parse_operation(reader):
    """Return an operation of an action."""
    if reader.skip("send"):
        operation = ("send", parse_expression(reader))
    elif reader.skip("drop"):
        operation = ("drop",)
    elif reader.skip("add"):
        operation = ("add", reader.take_name())
    elif reader.skip("remove"):
        operation = ("remove", reader.take_name())
    else:
        field = parse_field(reader)
        reader.take("=")
        operation = ("set", field, parse_expression(reader))
    reader.take(";")
    return operation


def parse_expression(reader):
    """Return an operand, or an operator with its two operands."""
    first = parse_operand(reader)
    if reader.value() not in OPERATORS:
        return first
    operator = reader.take_one(OPERATORS)
    return (operator, first, parse_operand(reader))


def parse_operand(reader):
    """Return a number, a parameter or a field."""
    if reader.kind() == "number":
        return ("num", reader.take_number())
    owner = parse_owner(reader)
    if owner not in OWNER_WORDS and reader.value() != ".":
        return ("param", owner)
    reader.take(".")
    return ("field", owner, reader.take_name())


def parse_field(reader):
    """Return the pair of the owner and the name of a field."""
    owner = parse_owner(reader)
    reader.take(".")
    return (owner, reader.take_name())


def parse_owner(reader):
    """Return a name, "meta" or "packet"."""
    if reader.value() in OWNER_WORDS:
        return reader.take_one(OWNER_WORDS)
    return reader.take_name()


def parse_table(reader):
    """Return a table; its first word was passed."""
    name = reader.take_name()
    reader.take("{")
    keys = []
    while reader.skip("key"):
        keys.append(parse_key(reader))
    uses = []
    while reader.skip("use"):
        uses.append(reader.take_name())
        reader.take(";")
    default = parse_default(reader)
    reader.take("size")
    size = reader.take_number()
    reader.take(";")
    reader.take("}")
    return ("table", name, keys, uses, default, size)


def parse_key(reader):
    """Return a key of a table; its first word was passed."""
    field = parse_field(reader)
    kind = reader.take_one(KEY_KINDS)
    reader.take(";")
    return (field, kind)


def parse_default(reader):
    """Return the default of a table."""
    reader.take("default")
    name = reader.take_name()
    args = parse_args(reader)
    reader.take(";")
    return (name, args)


def parse_args(reader):
    """Return the list of the numbers in parentheses."""
    reader.take("(")
    if reader.skip(")"):
        return []
    args = [reader.take_number()]
    while reader.skip(","):
        args.append(reader.take_number())
    reader.take(")")
    return args


def parse_block(reader, outer):
    """Return the list of the statements of a block that stands in `outer` open blocks."""
    if outer == MOST_BLOCKS:
        reader.fail()
    statements = []
    reader.take("{")
    while not reader.skip("}"):
        statements.append(parse_statement(reader, outer + 1))
    return statements


def parse_statement(reader, outer):
    """Return a statement that stands in `outer` open blocks."""
    if reader.skip("apply"):
        name = reader.take_name()
        reader.take(";")
        return ("apply", name)
    reader.take("if")
    condition = parse_condition(reader)
    then = parse_block(reader, outer)
    other = []
    if reader.skip("else"):
        other = parse_block(reader, outer)
    return ("if", condition, then, other)


def parse_condition(reader):
    """Return the test of an `if`."""
    nots = 0
    # A ninth "not" is left to parse_comparison, which fails at it.
    while nots < MOST_NOTS and reader.skip("not"):
        nots += 1
    condition = parse_comparison(reader)
    for _ in range(nots):
        condition = ("not", condition)
    return condition


def parse_comparison(reader):
    """Return a test that does not begin with "not"."""
    if reader.skip("valid"):
        return ("valid", reader.take_name())
    field = parse_field(reader)
    sign = reader.take_one(COMPARISONS)
    return (sign, field, reader.take_number())


def parse_emits(reader):
    """Return the list of the names behind "emit", which was passed."""
    names = [reader.take_name()]
    while reader.skip(","):
        names.append(reader.take_name())
    reader.take(";")
    return names
