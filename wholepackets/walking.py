"""The parser unit (points 7.1 and 7.2)."""

from wholepackets.bits import OCTET_WIDTH, ones, split_octets
from wholepackets.layout import NO_PORT, OUT_CELL, PORT_CELL, cell_of, header_cells, valid_cell
from wholepackets.parts import fields_of, names_of, states_of
from wholepackets.paths import FIRST_STATE
from wholepackets.rules import width_of

ACCEPT_GOAL = -1
REJECT_GOAL = -2


def compile_parser(program):
    """Return the steps of the parser and the index of the first one that is taken."""
    states = states_of(program)
    steps = [compile_state(program, state) for state in states]
    return (steps, names_of(states).index(FIRST_STATE))


def compile_state(program, state):
    """Return the step of a state."""
    _, _, header, way = state
    valid = None
    parts = []
    if header is not None:
        valid = valid_cell(program, header)
        widths = [width for _, width in fields_of(program, header)]
        parts = list(zip(header_cells(program, header), widths))
    octets = sum([width for _, width in parts]) // OCTET_WIDTH
    if way[0] == "go":
        return (valid, parts, octets, None, [], goal_of(program, way[1]))
    _, field, rows, other = way
    compiled = [compile_row(program, field, row) for row in rows]
    return (valid, parts, octets, cell_of(program, field), compiled, goal_of(program, other))


def compile_row(program, field, row):
    """Return a row of a step."""
    value, mask, target = row
    if mask is None:
        mask = ones(width_of(program, field))
    return (mask, value, goal_of(program, target))


def goal_of(program, target):
    """Return the goal that a target becomes."""
    if target == "accept":
        return ACCEPT_GOAL
    if target == "reject":
        return REJECT_GOAL
    return names_of(states_of(program)).index(target)


def walk(parser, count, packet, port):
    """Return the cells behind the parsing of a packet and the octets that are left, or None."""
    steps, goal = parser
    cells = [0] * count
    cells[PORT_CELL] = port
    cells[OUT_CELL] = NO_PORT
    taken = 0
    while goal >= 0:
        valid, parts, octets, key, rows, other = steps[goal]
        if len(packet) - taken < octets:
            return None
        if valid is not None:
            cells[valid] = 1
        values = split_octets(packet[taken:taken + octets], [width for _, width in parts])
        for (cell, _), value in zip(parts, values):
            cells[cell] = value
        taken += octets
        goal = next_goal(cells, key, rows, other)
    if goal == REJECT_GOAL:
        return None
    return (cells, packet[taken:])


def next_goal(cells, key, rows, other):
    """Return the goal behind a step."""
    for mask, value, goal in rows:
        if cells[key] & mask == value:
            return goal
    return other
