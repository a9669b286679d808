"""The cells that hold everything about a packet (point 6.1)."""

from wholepackets.parts import PORT, PORT_WIDTH, fields_of, headers_of, meta_of

PORT_CELL = 0
OUT_CELL = 1
OUT_WIDTH = 4
NO_PORT = 8


def cells_of(program):
    """Return the list of the pairs (field, width) of all cells.

    In place of a field stands None for the out port, and a header's name for its valid cell.
    """
    cells = [(PORT, PORT_WIDTH), (None, OUT_WIDTH)]
    for _, header, fields in headers_of(program):
        cells.append((header, 1))
        for name, width in fields:
            cells.append(((header, name), width))
    for name, width in meta_of(program):
        cells.append((("meta", name), width))
    return cells


def index_of(program, place):
    """Return the index of the cell that stands for a field or a header's validity."""
    return [other for other, _ in cells_of(program)].index(place)


def cell_of(program, field):
    """Return the index of the cell of a field."""
    return index_of(program, field)


def valid_cell(program, header):
    """Return the index of the valid cell of a header."""
    return index_of(program, header)


def widths(program):
    """Return the list of the widths of all cells."""
    return [width for _, width in cells_of(program)]


def header_cells(program, header):
    """Return the list of the indexes of the cells of a header's fields."""
    return [cell_of(program, (header, name)) for name, _ in fields_of(program, header)]
