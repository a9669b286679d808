"""The rule "parser" (points 3.1 and 3.2)."""

from wholepackets.parsing import END_TARGETS, OWNER_WORDS
from wholepackets.parts import names_of, part_named

FIRST_STATE = "start"


def is_parser(states):
    """Tell if states keep the rule "parser"."""
    names = names_of(states)
    if FIRST_STATE not in names:
        return False
    if not all(target in names for state in states for target in later_states(state)):
        return False
    # Only a parser without circles has a last state on each path.
    if any(name in reached_from(states, name) for name in names):
        return False
    if any(selects_meta(state) for state in states):
        return False
    return paths_hold(states, FIRST_STATE, [])


def later_states(state):
    """Return the targets of a state that are neither "accept" nor "reject", each once."""
    found = []
    for target in targets_of(state):
        if target not in END_TARGETS and target not in found:
            found.append(target)
    return found


def targets_of(state):
    """Return all targets of a state."""
    _, _, _, way = state
    if way[0] == "go":
        return [way[1]]
    _, _, rows, other = way
    return [*[target for _, _, target in rows], other]


def reached_from(states, name):
    """Return the names of the states that can be reached from a state by one step or more."""
    found = []
    waiting = [name]
    while waiting:
        state = part_named(states, waiting.pop())
        for target in later_states(state):
            if target not in found:
                found.append(target)
                waiting.append(target)
    return found


def selects_meta(state):
    """Tell if a state selects by a field of `meta`."""
    _, _, _, way = state
    return way[0] == "select" and way[1][0] == "meta"


def paths_hold(states, name, extracted):
    """Tell if the paths that go on at a state extract what they select, and nothing twice."""
    _, _, header, way = part_named(states, name)
    if header in extracted:
        return False
    if header is not None:
        extracted = [*extracted, header]
    if way[0] == "select" and way[1][0] not in [*OWNER_WORDS, *extracted]:
        return False
    later = later_states(part_named(states, name))
    return all(paths_hold(states, target, extracted) for target in later)
