"""Tests of the written form (point 2.5)."""

import copy
import unittest

from samples import PROGRAM, SMALLEST, SMALLEST_TEXT, TEXT
from wholepackets.parsing import parse_program
from wholepackets.writing import write_program


def with_parts(headers=(), meta=(), states=(), actions=(), tables=(), control=(), emits=()):
    """Return a program with some of its parts."""
    lists = [list(part) for part in (headers, meta, states, actions, tables, control, emits)]
    return ("program", "p", *lists)


def nested(blocks, nots):
    """Return a control with open blocks in each other and "not" in front of each test."""
    test = ("valid", "h")
    for _ in range(nots):
        test = ("not", test)
    statements = [("apply", "t")]
    for at in range(blocks - 1):
        other = [("apply", "u")] if at % 2 else []
        statements = [("if", test, statements, other), ("apply", "v")]
    return statements


class WritingTest(unittest.TestCase):
    def assert_body(self, program, lines):
        """Check the lines of a program between its first line and the end."""
        self.assertEqual(write_program(program).split("\n"), ["program p", *lines, ""])

    def assert_control(self, control, lines):
        self.assert_body(with_parts(control=control), ["parser {", "}", "control {", *lines, "}"])
        self.assertEqual(parse_program(write_program(with_parts(control=control)))[7], control)

    def assert_operation(self, operation, line):
        program = with_parts(actions=[("action", "a", [], [operation])])
        lines = ["parser {", "}", "action a() {", "  " + line, "}", "control {", "}"]
        self.assert_body(program, lines)
        self.assertEqual(parse_program(write_program(program)), program)

    def assert_state(self, state, lines):
        program = with_parts(states=[state])
        self.assert_body(program, ["parser {", *lines, "}", "control {", "}"])
        self.assertEqual(parse_program(write_program(program)), program)

    def test_whole_program(self):
        self.assertEqual(write_program(PROGRAM).split("\n"), TEXT.split("\n"))

    def test_example(self):
        op = ("set", ("meta", "m"), ("+", ("num", 1), ("param", "x")))
        control = [("if", ("<", ("meta", "m"), 3), [], [])]
        program = ("program", "p", [], [("m", 4)], [], [("action", "a", [("x", 8)], [op])], [], control, [])
        expected = (
            "program p\nmeta {\n  m: 4;\n}\nparser {\n}\naction a(x: 8) {\n  meta.m = 1 + x;\n}\n"
            "control {\n  if meta.m < 3 {\n  }\n}\n"
        )
        self.assertEqual(write_program(program), expected)

    def test_smallest_program(self):
        self.assertEqual(write_program(SMALLEST), SMALLEST_TEXT)

    def test_headers_and_meta(self):
        headers = [("header", "h", [("a", 8), ("b", 32)]), ("header", "i", [])]
        lines = ["header h {", "  a: 8;", "  b: 32;", "}", "header i {", "}", "meta {", "  m: 1;", "  n: 2;", "}"]
        program = with_parts(headers=headers, meta=[("m", 1), ("n", 2)])
        self.assert_body(program, [*lines, "parser {", "}", "control {", "}"])

    def test_states(self):
        self.assert_state(("state", "a", None, ("go", "accept")), ["  state a {", "    go accept;", "  }"])
        lines = ["  state a {", "    extract h;", "    go b;", "  }"]
        self.assert_state(("state", "a", "h", ("go", "b")), lines)

    def test_selects(self):
        way = ("select", ("h", "f"), [(0, None, "b"), (1, 0, "reject"), (16, 255, "accept")], "c")
        rows = ["0 -> b;", "1 & 0 -> reject;", "16 & 255 -> accept;", "else -> c;"]
        select = ["    select h.f {", *["      " + row for row in rows], "    }"]
        self.assert_state(("state", "a", "h", way), ["  state a {", "    extract h;", *select, "  }"])
        self.assert_state(("state", "a", None, way), ["  state a {", *select, "  }"])
        way = ("select", ("packet", "port"), [], "accept")
        lines = ["  state a {", "    select packet.port {", "      else -> accept;", "    }", "  }"]
        self.assert_state(("state", "a", None, way), lines)

    def test_operations(self):
        self.assert_operation(("drop",), "drop;")
        self.assert_operation(("add", "h"), "add h;")
        self.assert_operation(("remove", "h"), "remove h;")
        self.assert_operation(("send", ("num", 4294967295)), "send 4294967295;")
        self.assert_operation(("send", ("param", "x")), "send x;")
        self.assert_operation(("send", ("field", "packet", "port")), "send packet.port;")
        self.assert_operation(("set", ("h", "a"), ("field", "meta", "b")), "h.a = meta.b;")

    def test_expressions(self):
        for sign in "+-&|^":
            expression = (sign, ("num", 1), ("param", "x"))
            self.assert_operation(("send", expression), "send 1 " + sign + " x;")
            expression = (sign, ("field", "h", "a"), ("field", "meta", "m"))
            self.assert_operation(("set", ("h", "b"), expression), "h.b = h.a " + sign + " meta.m;")

    def test_actions(self):
        actions = [("action", "a", [], []), ("action", "b", [("x", 1)], []), ("action", "c", [("x", 1), ("y", 32)], [])]
        heads = ["action a() {", "}", "action b(x: 1) {", "}", "action c(x: 1, y: 32) {", "}"]
        self.assert_body(with_parts(actions=actions), ["parser {", "}", *heads, "control {", "}"])

    def test_tables(self):
        keys = [(("h", "a"), "exact"), (("meta", "b"), "mask"), (("packet", "port"), "prefix")]
        tables = [
            ("table", "t", [], [], ("a", []), 1),
            ("table", "u", [], [], ("a", [7]), 1),
            ("table", "v", keys, ["a", "b"], ("b", [1, 255]), 16),
        ]
        lines = ["table t {", "  default a();", "  size 1;", "}", "table u {", "  default a(7);", "  size 1;", "}"]
        lines += ["table v {", "  key h.a exact;", "  key meta.b mask;", "  key packet.port prefix;"]
        lines += ["  use a;", "  use b;", "  default b(1, 255);", "  size 16;", "}"]
        self.assert_body(with_parts(tables=tables), ["parser {", "}", *lines, "control {", "}"])
        self.assertEqual(parse_program(write_program(with_parts(tables=tables)))[6], tables)

    def test_control(self):
        test = ("valid", "h")
        apply_t = ("apply", "t")
        self.assert_control([], [])
        self.assert_control([apply_t, apply_t], ["  apply t;", "  apply t;"])
        self.assert_control([("if", test, [], [])], ["  if valid h {", "  }"])
        self.assert_control([("if", test, [apply_t], [])], ["  if valid h {", "    apply t;", "  }"])
        lines = ["  if valid h {", "  } else {", "    apply t;", "  }"]
        self.assert_control([("if", test, [], [apply_t])], lines)
        lines = ["  if valid h {", "    if valid h {", "    }", "  } else {", "    apply t;", "  }"]
        self.assert_control([("if", test, [("if", test, [], [])], [apply_t])], lines)

    def test_tests(self):
        expected = {
            "h.a == 4": ("==", ("h", "a"), 4),
            "packet.port < 0": ("<", ("packet", "port"), 0),
            "valid h": ("valid", "h"),
            "not meta.m < 4294967295": ("not", ("<", ("meta", "m"), 4294967295)),
            "not not valid h": ("not", ("not", ("valid", "h"))),
        }
        for text, test in expected.items():
            self.assert_control([("if", test, [], [])], ["  if " + text + " {", "  }"])

    def test_emits(self):
        self.assert_body(with_parts(emits=["h"]), ["parser {", "}", "control {", "}", "emit h;"])
        self.assert_body(with_parts(emits=["h", "i", "j"]), ["parser {", "}", "control {", "}", "emit h, i, j;"])

    def test_written_text_is_parsed_to_the_program(self):
        for program in (PROGRAM, SMALLEST, with_parts(emits=["h"]), with_parts(meta=[("m", 1)])):
            self.assertEqual(parse_program(write_program(program)), program)
        for blocks in range(1, 9):
            for nots in range(9):
                program = with_parts(control=nested(blocks, nots))
                self.assertEqual(parse_program(write_program(program)), program)

    def test_programs_beyond_the_limits_are_written(self):
        text = write_program(with_parts(control=nested(12, 10)))
        self.assertEqual(text.count("if " + "not " * 10 + "valid h {"), 11)
        innermost = ["  " * 11 + "if " + "not " * 10 + "valid h {", "  " * 12 + "apply t;"]
        self.assertEqual(text.split("\n")[14:16], innermost)

    def test_argument_is_not_modified(self):
        program = copy.deepcopy(PROGRAM)
        write_program(program)
        self.assertEqual(program, PROGRAM)


if __name__ == "__main__":
    unittest.main()
