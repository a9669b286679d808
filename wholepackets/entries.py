"""The entries of tables (points 0.5 and 4.1 to 4.3)."""

from wholepackets.bits import fits, high_ones, ones, within
from wholepackets.parts import actions_of, args_fit, part_named, tables_of
from wholepackets.rules import width_of

GREATEST_PRIORITY = 255


def is_entry(program, table, entry):
    """Tell if an entry is valid for a table."""
    _, _, keys, uses, _, _ = part_named(tables_of(program), table)
    _, items, priority, action, args = entry
    if len(items) != len(keys) or not 0 <= priority <= GREATEST_PRIORITY:
        return False
    if action not in uses or not is_call(program, action, args):
        return False
    for (field, kind), item in zip(keys, items):
        if not is_item(kind, width_of(program, field), item):
            return False
    return True


def is_call(program, action, args):
    """Tell if an action takes these arguments."""
    _, _, params, _ = part_named(actions_of(program), action)
    return len(args) == len(params) and args_fit(params, args)


def is_item(kind, width, item):
    """Tell if an item of an entry is valid for a key."""
    if isinstance(item, int):
        return kind == "exact" and fits(item, width)
    value, second = item
    if kind == "exact" or not fits(value, width):
        return False
    if kind == "mask":
        return fits(second, width) and within(value, second)
    return 0 <= second <= width and within(value, high_ones(width, second))


def value_and_mask(kind, width, item):
    """Return the value that a key has, and the mask under which it has it, if an item matches."""
    if kind == "exact":
        return (item, ones(width))
    value, second = item
    if kind == "mask":
        return (value, second)
    return (value, high_ones(width, second))


def matches(program, table, entry, values):
    """Tell if a valid entry matches the values of a table's keys."""
    _, _, keys, _, _, _ = part_named(tables_of(program), table)
    for (field, kind), item, value in zip(keys, entry[1], values):
        if not key_matches(kind, width_of(program, field), item, value):
            return False
    return True


def key_matches(kind, width, item, value):
    """Tell if an item of an entry matches the value of its key."""
    if kind == "exact":
        return value == item
    wanted, mask = value_and_mask(kind, width, item)
    return value & mask == wanted


def preferred(program, table, entries):
    """Return the indexes of valid entries, the one first that is chosen before all others."""
    _, _, keys, _, _, _ = part_named(tables_of(program), table)
    ranks = []
    for index, (_, items, priority, _, _) in enumerate(entries):
        ranks.append((-priority, -prefix_length(keys, items), index))
    return [index for _, _, index in sorted(ranks)]


def prefix_length(keys, items):
    """Return the length of the prefix among the items of an entry, or 0 if there is none."""
    for (_, kind), item in zip(keys, items):
        if kind == "prefix":
            return item[1]
    return 0


def choose(program, table, entries, values):
    """Return the index of the entry that is chosen for the values of a table's keys, or -1."""
    for index in preferred(program, table, entries):
        if matches(program, table, entries[index], values):
            return index
    return -1


def call_of(program, table, entries, index):
    """Return the action and the arguments of an entry, or of the default for the index -1."""
    if index == -1:
        action, args = part_named(tables_of(program), table)[4]
    else:
        _, _, _, action, args = entries[index]
    # A copy, since the caller may change the list, but not the program or the entry.
    return (action, list(args))
