"""Compiled actions (points 9.1 and 9.2)."""

from wholepackets.bits import compute, ones
from wholepackets.layout import NO_PORT, OUT_CELL, cell_of, header_cells, valid_cell
from wholepackets.parts import actions_of, operands_of, part_named
from wholepackets.rules import width_of

NOTHING = ("num", 0)


def compile_action(program, action):
    """Return the list of the moves of the action with a name."""
    _, _, params, operations = part_named(actions_of(program), action)
    names = [name for name, _ in params]
    return [compile_operation(program, names, operation) for operation in operations]


def compile_operation(program, params, operation):
    """Return the move of an operation."""
    word = operation[0]
    if word == "set":
        return compile_set(program, params, operation)
    if word == "send":
        return ("send", *compile_expression(program, params, operation[1]))
    if word == "drop":
        return ("send", None, ("num", NO_PORT), NOTHING)
    header = operation[1]
    return (word, valid_cell(program, header), header_cells(program, header))


def compile_set(program, params, operation):
    """Return the move of a "set"."""
    _, field, expression = operation
    valid = None
    if field[0] != "meta":
        valid = valid_cell(program, field[0])
    rest = compile_expression(program, params, expression)
    return ("put", cell_of(program, field), width_of(program, field), valid, *rest)


def compile_expression(program, params, expression):
    """Return the triple of the operator and the two operands of an expression."""
    operands = [compile_operand(program, params, operand) for operand in operands_of(expression)]
    if len(operands) == 1:
        return (None, operands[0], NOTHING)
    return (expression[0], operands[0], operands[1])


def compile_operand(program, params, operand):
    """Return the operand of a move."""
    if operand[0] == "field":
        return ("cell", cell_of(program, (operand[1], operand[2])))
    if operand[0] == "param":
        return ("arg", params.index(operand[1]))
    return operand


def execute(moves, cells, args):
    """Return the cells behind the execution of moves with arguments."""
    cells = list(cells)
    for move in moves:
        changes = changes_of(move, cells, args)
        for cell, value in changes:
            cells[cell] = value
    return cells


def changes_of(move, cells, args):
    """Return the list of the pairs (cell, new value) of a move."""
    word = move[0]
    if word == "put":
        return put_changes(move, cells, args)
    if word == "send":
        _, operator, first, second = move
        value = value_of(operator, first, second, cells, args)
        if not 0 <= value < NO_PORT:
            value = NO_PORT
        return [(OUT_CELL, value)]
    _, valid, emptied = move
    if word == "remove":
        return [(valid, 0), *[(cell, 0) for cell in emptied]]
    if cells[valid] == 1:
        return []
    return [(valid, 1), *[(cell, 0) for cell in emptied]]


def put_changes(move, cells, args):
    """Return the list of the changes of a "put"."""
    _, cell, width, valid, operator, first, second = move
    if valid is not None and cells[valid] == 0:
        return []
    value = value_of(operator, first, second, cells, args)
    return [(cell, value & ones(width))]


def value_of(operator, first, second, cells, args):
    """Return the value of an operator, or of the first operand without one."""
    value = operand_value(first, cells, args)
    if operator is None:
        return value
    return compute(operator, value, operand_value(second, cells, args))


def operand_value(operand, cells, args):
    """Return the value of an operand of a move."""
    kind, number = operand
    if kind == "cell":
        return cells[number]
    if kind == "arg":
        return args[number]
    return number
