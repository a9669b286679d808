"""The nodes of the control and their stages (points 8.1 to 8.4)."""

from wholepackets.layout import cell_of, valid_cell
from wholepackets.parts import all_statements, control_of, names_of, part_named, plain_test, tables_of
from wholepackets.rules import width_of

END = -1


def compile_control(program):
    """Return the list of the nodes of a program."""
    return compile_statements(program, control_of(program), 0, END)


def compile_statements(program, statements, first, after):
    """Return the nodes of a list of statements.

    `first` is the index of the first of them, `after` that of the node behind the list.
    """
    nodes = []
    for at, statement in enumerate(statements):
        index = first + len(nodes)
        follower = after
        if at + 1 < len(statements):
            follower = index + len(all_statements([statement]))
        nodes.extend(compile_statement(program, statement, index, follower))
    return nodes


def compile_statement(program, statement, index, after):
    """Return the nodes of a statement; `index` is that of its own one."""
    if statement[0] == "apply":
        return [table_node(program, statement[1], after)]
    _, test, then, other = statement
    then_first = index + 1
    other_first = then_first + len(all_statements(then))
    yes = first_of(then, then_first, after)
    no = first_of(other, other_first, after)
    return [
        test_node(program, test, yes, no),
        *compile_statements(program, then, then_first, after),
        *compile_statements(program, other, other_first, after),
    ]


def first_of(statements, first, after):
    """Return the index of the node to which a list inside an `if` leads."""
    if statements:
        return first
    return after


def table_node(program, name, after):
    """Return the node of an `apply`."""
    tables = tables_of(program)
    _, _, keys, _, _, _ = part_named(tables, name)
    compiled = [(cell_of(program, field), kind, width_of(program, field)) for field, kind in keys]
    return ("table", names_of(tables).index(name), compiled, after)


def test_node(program, test, yes, no):
    """Return the node of an `if`."""
    inner, turned = plain_test(test)
    if turned:
        yes, no = no, yes
    if inner[0] == "valid":
        return ("test", "==", valid_cell(program, inner[1]), 1, yes, no)
    sign, field, number = inner
    return ("test", sign, cell_of(program, field), number, yes, no)


def stages(nodes):
    """Return the list of the stages of nodes."""
    found = [0] * len(nodes)
    # A node leads only to later ones, so its own stage is complete when it is met.
    for at, node in enumerate(nodes):
        for follower in followers_of(node):
            found[follower] = max(found[follower], found[at] + 1)
    return found


def followers_of(node):
    """Return the indexes of the nodes to which a node leads."""
    if node[0] == "table":
        goals = [node[3]]
    else:
        goals = [node[4], node[5]]
    return [goal for goal in goals if goal != END]
