"""Images: the contents of the units of a pipe (points 10.1 to 10.5)."""

from wholepackets.actions import compile_action, execute
from wholepackets.bits import is_packet, join_octets
from wholepackets.entries import preferred, value_and_mask
from wholepackets.errors import BuildError
from wholepackets.layout import NO_PORT, OUT_CELL, header_cells, valid_cell, widths
from wholepackets.nodes import compile_control, stages
from wholepackets.parts import emits_of, fields_of, tables_of
from wholepackets.walking import compile_parser, walk

STAGES = 12
DEFAULT_INDEX = -1


def build(configuration):
    """Return the image of a configuration, or raise BuildError."""
    program, _ = configuration
    nodes = compile_control(program)
    levels = stages(nodes)
    if any([level >= STAGES for level in levels]):
        raise BuildError()
    rows = [{} for _ in range(STAGES)]
    for index, node in enumerate(nodes):
        rows[levels[index]][index] = (node, memory_of(configuration, node))
    return [parser_unit(program), *[("stage", found) for found in rows], emitter_unit(program)]


def parser_unit(program):
    """Return the contents of unit 0."""
    return ("parser", compile_parser(program), len(widths(program)))


def emitter_unit(program):
    """Return the contents of unit 13."""
    rows = []
    for header in emits_of(program):
        sizes = [width for _, width in fields_of(program, header)]
        cells = list(zip(header_cells(program, header), sizes))
        rows.append((valid_cell(program, header), cells))
    return ("emitter", rows)


def memory_of(configuration, node):
    """Return the memory of a node: rows and a default for a table, None for a test."""
    if node[0] == "test":
        return None
    program, entries = configuration
    _, index, keys, _ = node
    _, name, _, _, (action, args), _ = tables_of(program)[index]
    rows = []
    for at in preferred(program, name, entries[name]):
        rows.append(memory_row(program, keys, entries[name][at], at))
    return (rows, (compile_action(program, action), list(args)))


def memory_row(program, keys, entry, index):
    """Return the row of an entry; `index` is that of the entry."""
    _, items, _, action, args = entry
    pairs = [value_and_mask(kind, width, item) for (_, kind, width), item in zip(keys, items)]
    values = [value for value, _ in pairs]
    masks = [mask for _, mask in pairs]
    return (values, masks, compile_action(program, action), list(args), index)


def enter_unit(unit, packet, port):
    """Return the first treatment of a packet that enters at a port."""
    _, parser, count = unit
    walked = walk(parser, count, packet, port)
    if walked is None:
        return ("drop", "parse")
    cells, payload = walked
    return ("run", cells, payload, 0)


def pass_unit(unit, treatment):
    """Return the treatment after a unit from 1 to 13."""
    if treatment[0] != "run":
        return treatment
    _, cells, payload, _ = treatment
    if unit[0] == "emitter":
        return emit(unit, cells, payload)
    found = own_node(unit, treatment)
    if found is None:
        return treatment
    node, memory = found
    if node[0] == "test":
        return ("run", cells, payload, test_goal(node, cells))
    moves, args, _ = call_in(node, memory, cells)
    return ("run", execute(moves, cells, args), payload, node[3])


def own_node(unit, treatment):
    """Return the pair of a stage's node and its memory that a treatment meets next, or None."""
    if unit[0] != "stage" or treatment[0] != "run":
        return None
    return unit[1].get(treatment[3])


def test_goal(node, cells):
    """Return the index of the node behind a test."""
    _, sign, cell, number, yes, no = node
    if sign == "==" and cells[cell] == number:
        return yes
    if sign == "<" and cells[cell] < number:
        return yes
    return no


def call_in(node, memory, cells):
    """Return the moves, the arguments and the index that the memory of a table gives."""
    rows, default = memory
    keys = [cells[cell] for cell, _, _ in node[2]]
    for values, masks, moves, args, index in rows:
        if all([key & mask == value for key, mask, value in zip(keys, masks, values)]):
            return (moves, args, index)
    moves, args = default
    return (moves, args, DEFAULT_INDEX)


def emit(unit, cells, payload):
    """Return the result for a packet behind the control."""
    if cells[OUT_CELL] == NO_PORT:
        return ("drop", "control")
    packet = []
    for valid, fields in unit[1]:
        if cells[valid] == 1:
            values = [cells[cell] for cell, _ in fields]
            packet.extend(join_octets(values, [width for _, width in fields]))
    packet.extend(payload)
    if not is_packet(packet):
        return ("drop", "size")
    return ("out", cells[OUT_CELL], packet)


def choice(unit, treatment):
    """Return the choice of a unit from 1 to 13 for a treatment, or None."""
    found = own_node(unit, treatment)
    if found is None:
        return None
    node, memory = found
    if node[0] == "test":
        return None
    _, _, index = call_in(node, memory, treatment[1])
    return (node[1], index)


def run_image(image, packet, port):
    """Return the result for a packet that goes through all units of an image."""
    treatment = enter_unit(image[0], packet, port)
    for unit in image[1:]:
        treatment = pass_unit(unit, treatment)
    return treatment
