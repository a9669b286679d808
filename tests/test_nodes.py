"""Tests of the nodes of the control and their stages (points 8.1 to 8.4)."""

import copy
import unittest

from building import action, header, make, table
from wholepackets.nodes import compile_control, stages

PORT = ("packet", "port")
HEADERS = [header("h", 4, 4), header("i", 8)]
NAMES = [name for name in "stuvwxyz"]
BY_PORT = ("==", PORT, 1)


def apply(name):
    """Return the statement that applies a table."""
    return ("apply", name)


def when(then, other=(), test=BY_PORT):
    """Return an `if`."""
    return ("if", test, list(then), list(other))


def compiled(control):
    """Return the nodes of a control; the tables s, t, .., z have no keys."""
    tables = [table(name) for name in NAMES]
    program = make(headers=HEADERS, meta=[("m", 5)], actions=[action("a")], tables=tables, control=control)
    return compile_control(program)


def at(name, follower):
    """Return the node of a table without keys."""
    return ("table", NAMES.index(name), [], follower)


def by_port(yes, no):
    """Return the node of an `if` by the port."""
    return ("test", "==", 0, 1, yes, no)


class NodesTest(unittest.TestCase):
    def test_empty_control(self):
        self.assertEqual(compiled([]), [])

    def test_tables(self):
        self.assertEqual(compiled([apply("u")]), [("table", 2, [], -1)])
        self.assertEqual(compiled([apply("u"), apply("s"), apply("t")]), [at("u", 1), at("s", 2), at("t", -1)])

    def test_keys(self):
        keys = [(("h", "b"), "exact"), (("meta", "m"), "prefix"), (PORT, "mask"), (("i", "a"), "exact")]
        tables = [table("t"), table("u", keys)]
        program = make(
            headers=HEADERS, meta=[("m", 5)], actions=[action("a")], tables=tables, control=[apply("u"), apply("t")]
        )
        expected = [(4, "exact", 4), (7, "prefix", 5), (0, "mask", 3), (6, "exact", 8)]
        self.assertEqual(compile_control(program), [("table", 1, expected, 1), ("table", 0, [], -1)])

    def test_tests(self):
        expected = {
            ("==", ("h", "b"), 9): ("==", 4, 9),
            ("<", ("meta", "m"), 31): ("<", 7, 31),
            ("<", PORT, 0): ("<", 0, 0),
            ("valid", "h"): ("==", 2, 1),
            ("valid", "i"): ("==", 5, 1),
        }
        for test, (kind, cell, number) in expected.items():
            for nots in range(4):
                yes, no = (2, 1) if nots % 2 else (1, 2)
                nodes = compiled([when([apply("s")], [apply("t")], test)])
                self.assertEqual(nodes, [("test", kind, cell, number, yes, no), at("s", -1), at("t", -1)])
                test = ("not", test)

    def test_empty_lists(self):
        self.assertEqual(compiled([when([])]), [by_port(-1, -1)])
        self.assertEqual(compiled([when([]), apply("s")]), [by_port(1, 1), at("s", -1)])
        self.assertEqual(compiled([when([apply("t")]), apply("s")]), [by_port(1, 2), at("t", 2), at("s", -1)])
        self.assertEqual(compiled([when([], [apply("t")]), apply("s")]), [by_port(2, 1), at("t", 2), at("s", -1)])
        self.assertEqual(compiled([when([apply("t")])]), [by_port(1, -1), at("t", -1)])

    def test_first_list_goes_before_the_other_one(self):
        control = [when([apply("s"), apply("t")], [apply("u"), apply("v")]), apply("w")]
        self.assertEqual(
            compiled(control), [by_port(1, 3), at("s", 2), at("t", 5), at("u", 4), at("v", 5), at("w", -1)]
        )

    def test_if_at_the_end_of_a_list_inside_an_if(self):
        control = [when([apply("s"), when([apply("t")], [])], [when([], [apply("u")])]), apply("v")]
        self.assertEqual(
            compiled(control),
            [by_port(1, 4), at("s", 2), by_port(3, 6), at("t", 6), by_port(6, 5), at("u", 6), at("v", -1)],
        )
        self.assertEqual(
            compiled(control[:1]),
            [by_port(1, 4), at("s", 2), by_port(3, -1), at("t", -1), by_port(-1, 5), at("u", -1)],
        )

    def test_if_in_the_middle_of_a_list(self):
        control = [when([when([apply("s")], [apply("t")]), apply("u")], []), apply("v")]
        self.assertEqual(
            compiled(control), [by_port(1, 5), by_port(2, 3), at("s", 4), at("t", 4), at("u", 5), at("v", -1)]
        )

    def test_deep_control(self):
        control = [apply("s")]
        for _ in range(7):
            control = [when(control)]
        expected = [by_port(index + 1, -1) for index in range(7)]
        self.assertEqual(compiled(control), [*expected, at("s", -1)])

    def test_example(self):
        test = ("not", ("<", ("meta", "m"), 3))
        tables = [table(name, size=1) for name in ["t", "u"]]
        control = [("if", test, [("apply", "u")], []), ("apply", "t")]
        program = make("x", meta=[("m", 4)], actions=[action("a")], tables=tables, control=control)
        nodes = compile_control(program)
        self.assertEqual(nodes, [("test", "<", 2, 3, 2, 1), ("table", 1, [], 2), ("table", 0, [], -1)])
        self.assertEqual(stages(nodes), [0, 1, 2])

    def test_nothing_is_modified(self):
        control = [when([apply("t")], [], ("not", BY_PORT)), apply("u")]
        tables = [table(name, [(PORT, "exact")]) for name in "tu"]
        program = make(actions=[action("a")], tables=tables, control=control)
        kept = copy.deepcopy(program)
        nodes = compile_control(program)
        again = copy.deepcopy(nodes)
        stages(nodes).append(1)
        self.assertEqual((program, nodes), (kept, again))
        nodes[1][2].append(1)
        nodes.clear()
        self.assertEqual((program, compile_control(program)), (kept, again))


class StagesTest(unittest.TestCase):
    def test_no_nodes(self):
        self.assertEqual(stages([]), [])

    def test_nodes_in_a_row(self):
        self.assertEqual(stages(compiled([apply(name) for name in "stuv"])), [0, 1, 2, 3])

    def test_lists_of_one_length(self):
        self.assertEqual(stages(compiled([when([apply("s")], [apply("t")]), apply("u")])), [0, 1, 1, 2])

    def test_lists_of_unlike_lengths(self):
        control = [when([apply("s"), apply("t"), apply("u")], [apply("v")]), apply("w"), apply("x")]
        self.assertEqual(stages(compiled(control)), [0, 1, 2, 3, 1, 4, 5])
        control = [when([apply("v")], [apply("s"), apply("t"), apply("u")]), apply("w"), apply("x")]
        self.assertEqual(stages(compiled(control)), [0, 1, 1, 2, 3, 4, 5])

    def test_empty_list(self):
        self.assertEqual(stages(compiled([when([apply("s"), apply("t")], []), apply("u")])), [0, 1, 2, 3])
        self.assertEqual(stages(compiled([when([], [apply("s")]), apply("u")])), [0, 1, 2])
        self.assertEqual(stages(compiled([when([], []), apply("u")])), [0, 1])

    def test_nested_lists(self):
        control = [when([when([apply("s"), apply("t")], [])], [apply("u")]), apply("v")]
        self.assertEqual(stages(compiled(control)), [0, 1, 2, 3, 1, 4])

    def test_more_than_twelve_stages_are_counted(self):
        control = [when([])] * 24
        self.assertEqual(stages(compiled(control)), list(range(24)))


if __name__ == "__main__":
    unittest.main()
