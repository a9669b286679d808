"""Tests of which rule decides if a program has several faults (points 3.1 and 3.2)."""

import itertools
import unittest

from wholepackets.errors import RuleError
from wholepackets.rules import check

PORT = ("packet", "port")
BY_PORT = ("==", PORT, 1)


def draft():
    """Return a valid program as dicts and lists, which a fault changes."""
    return {
        "name": "p",
        "headers": [["h", [["a", 4], ["b", 4]]], ["i", [["a", 8]]]],
        "meta": [["m", 4], ["n", 4]],
        "states": [
            {"name": "start", "header": "h", "field": ("h", "a"), "rows": [[1, None, "s"]], "other": "accept"},
            {"name": "s", "header": "i", "field": ("i", "a"), "rows": [[1, 3, "accept"]], "other": "reject"},
        ],
        "actions": [
            {"name": "a", "params": [["x", 4], ["y", 4]], "ops": [("send", ("param", "x")), ("add", "h")]},
            {"name": "b", "params": [], "ops": [("drop",), ("set", ("h", "a"), ("num", 1))]},
        ],
        "tables": [
            {"name": "t", "keys": [[PORT, "mask"]], "uses": ["a"], "default": ["a", [1, 2]], "size": 4},
            {"name": "u", "keys": [[("h", "a"), "mask"]], "uses": ["b"], "default": ["b", []], "size": 4},
        ],
        "ifs": [["==", ("h", "a"), 1], ["<", ("meta", "m"), 2]],
        "applied": ["t", "u"],
        "ends": [],
        "emits": ["h", "i"],
    }


def program_of(parts):
    """Return the program that a draft describes.

    Its control is: an `if`, in its lists an `apply` and another `if`, in whose second list the other `apply`.
    """
    headers = [("header", name, [tuple(pair) for pair in fields]) for name, fields in parts["headers"]]
    states = []
    for one in parts["states"]:
        way = ("select", one["field"], [tuple(row) for row in one["rows"]], one["other"])
        states.append(("state", one["name"], one["header"], way))
    actions = []
    for one in parts["actions"]:
        actions.append(("action", one["name"], [tuple(pair) for pair in one["params"]], one["ops"]))
    tables = []
    for one in parts["tables"]:
        keys = [tuple(key) for key in one["keys"]]
        tables.append(("table", one["name"], keys, one["uses"], tuple(one["default"]), one["size"]))
    inner = ("if", tuple(parts["ifs"][1]), [], [("apply", parts["applied"][1])])
    control = [("if", tuple(parts["ifs"][0]), [("apply", parts["applied"][0])], [inner]), *parts["ends"]]
    meta = [tuple(pair) for pair in parts["meta"]]
    return ("program", parts["name"], headers, meta, states, actions, tables, control, parts["emits"])


def assigned(path, worth):
    """Return a fault that gives something in a draft another value."""

    def change(parts):
        place = parts
        for step in path[:-1]:
            place = place[step]
        place[path[-1]] = worth

    return change


def extended(path, more):
    """Return a fault that puts more items at the end of a list in a draft."""

    def change(parts):
        place = parts
        for step in path:
            place = place[step]
        place.extend(more)

    return change


def spare_state(name):
    """Return a valid state of a draft."""
    return {"name": name, "header": None, "field": PORT, "rows": [], "other": "accept"}


def spare_table(name):
    """Return a valid table of a draft."""
    return {"name": name, "keys": [], "uses": ["a"], "default": ["a", [0, 0]], "size": 1}


# The parts in the order of the check; of each part the faults in the order of the rules, with the rule.
# A fault within one part stands in one list with the others of that part.
ORDER = [
    [("name", assigned(["name"], "9"))],
    [("size", extended(["headers"], [["h" + str(k), [["a", 8]]] for k in range(5)]))],
    [("size", assigned(["headers", 0, 1, 0, 1], 33)), ("name", assigned(["headers", 0, 0], "go"))],
    [("name", assigned(["headers", 0, 1, 0, 0], "0"))],
    [("name", assigned(["headers", 0, 1, 1, 0], "0"))],
    [("size", assigned(["headers", 1, 1, 0, 1], 12)), ("name", assigned(["headers", 1, 0], "h"))],
    [("name", assigned(["headers", 1, 1, 0, 0], "_"))],
    [("size", extended(["meta"], [["z" + str(k), 1] for k in range(7)]))],
    [("size", assigned(["meta", 0, 1], 0)), ("name", assigned(["meta", 0, 0], ""))],
    [("size", assigned(["meta", 1, 1], 33)), ("name", assigned(["meta", 1, 0], "m"))],
    [("size", extended(["states"], [spare_state("z" + str(k)) for k in range(7)]))],
    [
        ("size", extended(["states", 0, "rows"], [[2, None, "s"]] * 8)),
        ("name", assigned(["states", 0, "name"], "state")),
        ("field", assigned(["states", 0, "field"], ("h", "c"))),
        ("value", assigned(["states", 0, "rows", 0, 0], 16)),
    ],
    [
        ("size", extended(["states", 1, "rows"], [[2, None, "accept"]] * 8)),
        ("name", assigned(["states", 1, "name"], "start")),
        ("field", assigned(["states", 1, "header"], "j")),
        ("value", assigned(["states", 1, "rows", 0, 1], 2)),
    ],
    [("parser", assigned(["states", 1, "other"], "start"))],
    [("size", extended(["actions"], [{"name": "z" + str(k), "params": [], "ops": []} for k in range(7)]))],
    [
        ("size", extended(["actions", 0, "params"], [["z", 1], ["y2", 1], ["y3", 1]])),
        ("name", assigned(["actions", 0, "name"], "x y")),
    ],
    [("size", assigned(["actions", 0, "params", 0, 1], 33)), ("name", assigned(["actions", 0, "params", 0, 0], "9"))],
    [("size", assigned(["actions", 0, "params", 1, 1], 0)), ("name", assigned(["actions", 0, "params", 1, 0], "x"))],
    [("field", assigned(["actions", 0, "ops", 0], ("send", ("param", "w"))))],
    [("field", assigned(["actions", 0, "ops", 1], ("set", PORT, ("num", 1))))],
    [
        ("size", extended(["actions", 1, "ops"], [("drop",)] * 7)),
        ("name", assigned(["actions", 1, "name"], "a")),
    ],
    [("field", assigned(["actions", 1, "ops", 0], ("remove", "j")))],
    [("size", extended(["tables"], [spare_table("z" + str(k)) for k in range(7)]))],
    [
        ("size", assigned(["tables", 0, "size"], 17)),
        ("name", assigned(["tables", 0, "name"], "table")),
        ("field", extended(["tables", 0, "keys"], [[("h", "z"), "mask"]])),
        ("value", assigned(["tables", 0, "default", 1], [16, 0])),
        ("table", extended(["tables", 0, "uses"], ["nothing"])),
    ],
    [
        ("size", extended(["tables", 1, "uses"], ["b"] * 8)),
        ("name", assigned(["tables", 1, "name"], "t")),
        ("field", assigned(["tables", 1, "keys", 0, 0], ("packet", "p"))),
        ("table", assigned(["tables", 1, "default", 0], "nothing")),
    ],
    [("size", extended(["ends"], [("if", BY_PORT, [], [])] * 21))],
    [("field", assigned(["ifs", 0, 1], ("h", "z"))), ("value", assigned(["ifs", 0, 2], 16))],
    [("control", assigned(["applied", 0], "nothing"))],
    [("field", assigned(["ifs", 1, 1], ("meta", "z"))), ("value", assigned(["ifs", 1, 2], -1))],
    [("control", assigned(["applied", 1], "t"))],
    [("field", assigned(["emits", 0], "j"))],
    [("field", assigned(["emits", 1], "j"))],
]


class OrderTest(unittest.TestCase):
    def assert_faults(self, rule, *changes):
        """Check the rule that decides in the draft with some changes, whichever is made first."""
        for order in itertools.permutations(changes):
            parts = draft()
            for change in order:
                change(parts)
            with self.assertRaises(RuleError) as caught:
                check(program_of(parts))
            self.assertEqual(caught.exception.rule, rule)

    def test_draft_is_valid(self):
        self.assertIsNone(check(program_of(draft())))

    def test_one_fault(self):
        for faults in ORDER:
            for rule, change in faults:
                self.assert_faults(rule, change)

    def test_two_faults_of_one_part(self):
        for faults in ORDER:
            for (rule, change), (_, other) in itertools.combinations(faults, 2):
                self.assert_faults(rule, change, other)

    def test_two_faults_in_two_parts(self):
        # If both rules are the same, no test can tell which one decided.
        for earlier, later in itertools.combinations(ORDER, 2):
            for (rule, change), (_, other) in itertools.product(earlier, later):
                parts = draft()
                # The later part's fault is made first: its lists may change in length, but not in order.
                other(parts)
                change(parts)
                with self.assertRaises(RuleError) as caught:
                    check(program_of(parts))
                self.assertEqual(caught.exception.rule, rule)

    def test_all_faults(self):
        for at, faults in enumerate(ORDER):
            parts = draft()
            for later in ORDER[at + 1:]:
                later[-1][1](parts)
            faults[0][1](parts)
            with self.assertRaises(RuleError) as caught:
                check(program_of(parts))
            self.assertEqual(caught.exception.rule, faults[0][0])

    def test_faults_of_an_apply_and_of_an_emitted_name(self):
        parts = draft()
        parts["emits"] = ["h", "j", "h"]
        with self.assertRaises(RuleError) as caught:
            check(program_of(parts))
        self.assertEqual(caught.exception.rule, "field")
        parts["emits"] = ["h", "h", "j"]
        with self.assertRaises(RuleError) as caught:
            check(program_of(parts))
        self.assertEqual(caught.exception.rule, "control")

    def test_of_two_equal_names_the_later_one_decides(self):
        for kind in ("headers", "states", "actions", "tables"):
            parts = draft()
            first, second = parts[kind]
            parts[kind] = [first, second, first]
            if kind == "headers":
                second[1][0][1] = 7
            elif kind == "states":
                second["rows"] = [[1, None, "accept"]] * 9
            elif kind == "actions":
                second["ops"] = [("drop",)] * 9
            else:
                second["size"] = 0
            with self.assertRaises(RuleError) as caught:
                check(program_of(parts))
            self.assertEqual(caught.exception.rule, "size")
        for place in ("meta", "params"):
            parts = draft()
            pairs = parts["meta"] if place == "meta" else parts["actions"][0]["params"]
            pairs[1][1] = 33
            pairs.append(list(pairs[0]))
            with self.assertRaises(RuleError) as caught:
                check(program_of(parts))
            self.assertEqual(caught.exception.rule, "size")


if __name__ == "__main__":
    unittest.main()
