"""Tests of the rules "size", "name", "field", "value", "table" and "control" (point 3.1), and of `width_of`."""

import copy
import unittest

from building import START, action, field, header, make, num, param, select, state, table
from wholepackets.errors import RuleError, SwitchError
from wholepackets.rules import check, width_of

H = header("h", 4, 4)
PORT = ("packet", "port")
A = action("a")
BAD_NAMES = ["go", "valid", "", "a" * 17, "1a", "0", "_a", "a-b", "a b", "a.b", " a", "a\n", "\u00e9", "a\u00e9", "a%"]
GOOD_NAMES = ["a", "Z", "a1_", "z__9", "a" * 16, "Go", "start", "port"]


class RulesTest(unittest.TestCase):
    def assert_valid(self, **parts):
        """Check that a program with these parts is valid."""
        self.assertIsNone(check(make(**parts)))

    def assert_rule(self, rule, **parts):
        """Check which rule a program with these parts breaks."""
        with self.assertRaises(RuleError) as caught:
            check(make(**parts))
        self.assertEqual(caught.exception.rule, rule)
        self.assertIsInstance(caught.exception, SwitchError)


class SizeTest(RulesTest):
    def test_smallest_program(self):
        self.assert_valid()

    def test_number_of_headers(self):
        headers = [header("h" + str(k), 8) for k in range(7)]
        self.assert_valid(headers=headers[:6])
        self.assert_rule("size", headers=headers)

    def test_number_of_fields_of_a_header(self):
        self.assert_valid(headers=[header("h", *[4] * 8)])
        self.assert_rule("size", headers=[header("h", *[4] * 8, 8)])
        self.assert_rule("size", headers=[header("h")])

    def test_number_of_fields_of_meta(self):
        meta = [("m" + str(k), 1) for k in range(9)]
        self.assert_valid(meta=meta[:8])
        self.assert_rule("size", meta=meta)

    def test_widths_of_a_header(self):
        for widths in ((1, 7), (32,), (8,), (32, 32, 32, 32), (3, 5, 31, 1)):
            self.assert_valid(headers=[header("h", *widths)])
        for widths in ((0, 8), (33, 7), (40,), (-8, 16), (8, 0)):
            self.assert_rule("size", headers=[header("h", *widths)])

    def test_sum_of_the_widths_of_a_header(self):
        for total in (8, 16, 24, 120, 128):
            self.assert_valid(headers=[header("h", *[total // 8] * 8)])
        for widths in ((4,), (7,), (9,), (8, 1), (32, 32, 32, 31), (32, 32, 32, 32, 1), (32, 32, 32, 32, 8)):
            self.assert_rule("size", headers=[header("h", *widths)])

    def test_widths_of_meta(self):
        self.assert_valid(meta=[("m", 1), ("n", 32)])
        for width in (0, 33, -1):
            self.assert_rule("size", meta=[("m", 1), ("n", width)])

    def test_number_of_states(self):
        states = [START, *[state("s" + str(k)) for k in range(8)]]
        self.assert_valid(states=states[:8])
        self.assert_rule("size", states=states)

    def test_number_of_rows(self):
        rows = [(k % 8, None, "accept") for k in range(9)]
        self.assert_valid(states=[state("start", None, select(PORT, rows[:8]))])
        self.assert_rule("size", states=[state("start", None, select(PORT, rows))])

    def test_number_of_actions(self):
        actions = [action("a" + str(k)) for k in range(9)]
        self.assert_valid(actions=actions[:8])
        self.assert_rule("size", actions=actions)

    def test_number_and_widths_of_parameters(self):
        params = [("x" + str(k), 8) for k in range(5)]
        self.assert_valid(actions=[action("a", params[:4])])
        self.assert_rule("size", actions=[action("a", params)])
        for width in (1, 32):
            self.assert_valid(actions=[action("a", [("x", width)])])
        for width in (0, 33, -1):
            self.assert_rule("size", actions=[action("a", [("x", 1), ("y", width)])])

    def test_number_of_operations(self):
        self.assert_valid(actions=[action("a", [], [("drop",)] * 8)])
        self.assert_rule("size", actions=[action("a", [], [("drop",)] * 9)])

    def test_number_of_tables(self):
        tables = [table("t" + str(k)) for k in range(9)]
        self.assert_valid(actions=[A], tables=tables[:8])
        self.assert_rule("size", actions=[A], tables=tables)

    def test_number_of_keys(self):
        keys = [(("meta", name), "exact") for name in "mnopq"]
        meta = [(name, 4) for name in "mnopq"]
        self.assert_valid(meta=meta, actions=[A], tables=[table("t", keys[:4])])
        self.assert_rule("size", meta=meta, actions=[A], tables=[table("t", keys)])

    def test_number_of_uses(self):
        actions = [action("a" + str(k)) for k in range(8)]
        names = [part[1] for part in actions]
        self.assert_valid(actions=actions, tables=[table("t", [], names, ("a0", []))])
        self.assert_rule("size", actions=actions, tables=[table("t", [], [*names, "a0"], ("a0", []))])

    def test_size_of_a_table(self):
        for size in (1, 16):
            self.assert_valid(actions=[A], tables=[table("t", size=size)])
        for size in (0, 17, -1):
            self.assert_rule("size", actions=[A], tables=[table("t", size=size)])

    def test_number_of_statements(self):
        test = ("==", PORT, 1)
        self.assert_valid(control=[("if", test, [], [])] * 24)
        self.assert_rule("size", control=[("if", test, [], [])] * 25)

    def test_nested_statements_are_counted(self):
        test = ("==", PORT, 1)
        for many, place in ((24, "then"), (25, "then"), (24, "other"), (25, "other"), (24, "both"), (25, "both")):
            inner = [("if", test, [], [])] * (many - 2)
            lists = {"then": (inner, []), "other": ([], inner), "both": (inner[:5], inner[5:])}
            control = [("if", test, [("if", test, *lists[place])], [])]
            if many == 24:
                self.assert_valid(control=control)
            else:
                self.assert_rule("size", control=control)


    def test_no_rule_limits_the_depth(self):
        test = ("==", PORT, 1)
        control = [("if", test, [], [])]
        for _ in range(23):
            test = ("not", test)
            control = [("if", test, [], control)]
        self.assert_valid(control=control)
        self.assert_rule("size", control=[("if", test, control, [])])


class NameTest(RulesTest):
    def assert_name(self, parts_of):
        """Check good and bad names of one kind of part; the function gives the parts for a name."""
        for name in GOOD_NAMES:
            self.assert_valid(**parts_of(name))
        for name in BAD_NAMES:
            self.assert_rule("name", **parts_of(name))

    def test_name_of_the_program(self):
        self.assert_name(lambda name: {"name": name})

    def test_names_of_headers(self):
        self.assert_name(lambda name: {"headers": [header(name, 8)]})
        self.assert_rule("name", headers=[header("h", 8), header("i", 8), header("h", 16)])

    def test_names_of_fields(self):
        self.assert_name(lambda name: {"headers": [("header", "h", [("first", 4), (name, 4)])]})
        self.assert_rule("name", headers=[("header", "h", [("a", 4), ("b", 4), ("a", 8)])])
        self.assert_valid(headers=[header("h", 8), header("i", 8)], meta=[("a", 1)])

    def test_names_of_fields_of_meta(self):
        self.assert_name(lambda name: {"meta": [("first", 4), (name, 4)]})
        self.assert_rule("name", meta=[("m", 4), ("n", 4), ("m", 3)])

    def test_names_of_states(self):
        self.assert_name(lambda name: {"states": [state(name), *([] if name == "start" else [START])]})
        self.assert_rule("name", states=[START, state("s"), state("s")])
        self.assert_rule("name", states=[START, START])

    def test_names_of_actions(self):
        self.assert_name(lambda name: {"actions": [action(name)]})
        self.assert_rule("name", actions=[A, action("b"), A])

    def test_names_of_parameters(self):
        self.assert_name(lambda name: {"actions": [action("a", [("first", 4), (name, 4)])]})
        self.assert_rule("name", actions=[action("a", [("x", 1), ("y", 1), ("x", 2)])])
        self.assert_valid(actions=[action("a", [("x", 1)]), action("b", [("x", 1)])])

    def test_names_of_tables(self):
        self.assert_name(lambda name: {"actions": [A], "tables": [table(name)]})
        self.assert_rule("name", actions=[A], tables=[table("t"), table("u"), table("t")])

    def test_parts_of_unlike_kinds_may_have_one_name(self):
        one = {"states": [state("start"), state("a")], "actions": [action("a", [("a", 1)])]}
        tables = [table("a", default=("a", [1]))]
        self.assert_valid(name="a", headers=[header("a", 8)], meta=[("a", 1)], tables=tables, **one)


class FieldTest(RulesTest):
    def assert_operation(self, rule, operation):
        """Check an operation in a program with a header, a field of `meta` and a parameter."""
        parts = {"headers": [H], "meta": [("m", 4)], "actions": [action("a", [("x", 4)], [operation])]}
        if rule is None:
            self.assert_valid(**parts)
        else:
            self.assert_rule(rule, **parts)

    def test_extracted_header(self):
        self.assert_valid(headers=[H], states=[state("start", "h")])
        self.assert_rule("field", headers=[H], states=[state("start", "i")])
        self.assert_rule("field", headers=[H], states=[START, state("s", "meta")])

    def test_field_of_a_select(self):
        for pair in (("h", "a"), PORT):
            self.assert_valid(headers=[H], states=[state("start", "h", select(pair))])
        for pair in (("h", "c"), ("i", "a"), ("meta", "a"), ("packet", "a"), ("h", "port")):
            self.assert_rule("field", headers=[H], states=[state("start", "h", select(pair))])

    def test_assigned_fields(self):
        for pair in (("h", "a"), ("h", "b"), ("meta", "m")):
            self.assert_operation(None, ("set", pair, num(1)))
        for pair in (("h", "m"), ("i", "a"), ("meta", "a"), ("meta", "port"), PORT, ("packet", "a")):
            self.assert_operation("field", ("set", pair, num(1)))

    def test_operands(self):
        good = [num(0), num(4294967295), field("h", "b"), field("meta", "m"), field("packet", "port"), param("x")]
        bad = [field("h", "c"), field("i", "a"), field("meta", "a"), field("packet", "a"), param("y"), param("m")]
        for operand in good:
            for expression in (operand, ("+", operand, num(1)), ("-", num(1), operand)):
                self.assert_operation(None, ("set", ("h", "a"), expression))
                self.assert_operation(None, ("send", expression))
        for operand in bad:
            for expression in (operand, ("&", operand, num(1)), ("|", num(1), operand), ("^", param("x"), operand)):
                self.assert_operation("field", ("set", ("h", "a"), expression))
                self.assert_operation("field", ("send", expression))

    def test_parameter_of_another_action(self):
        actions = [action("a", [("x", 1)]), action("b", [], [("send", param("x"))])]
        self.assert_rule("field", actions=actions)

    def test_other_operations(self):
        for operation in (("drop",), ("add", "h"), ("remove", "h")):
            self.assert_operation(None, operation)
        for operation in (("add", "i"), ("remove", "i"), ("add", "meta"), ("remove", "packet")):
            self.assert_operation("field", operation)

    def test_keys(self):
        for pair in (("h", "a"), ("meta", "m"), PORT):
            self.assert_valid(headers=[H], meta=[("m", 1)], actions=[A], tables=[table("t", [(pair, "mask")])])
        for pair in (("h", "m"), ("i", "a"), ("meta", "a"), ("packet", "a")):
            keys = [(PORT, "exact"), (pair, "mask")]
            self.assert_rule("field", headers=[H], meta=[("m", 1)], actions=[A], tables=[table("t", keys)])

    def test_tests(self):
        good = [("==", ("h", "a"), 1), ("<", ("meta", "m"), 1), ("==", PORT, 1), ("valid", "h")]
        bad = [("==", ("h", "c"), 1), ("<", ("i", "a"), 1), ("==", ("packet", "a"), 1), ("valid", "i"), ("valid", "m")]
        for rule, tests in ((None, good), ("field", bad)):
            for test in [*tests, *[("not", test) for test in tests], *[("not", ("not", test)) for test in tests]]:
                parts = {"headers": [H], "meta": [("m", 4)], "control": [("if", test, [], [])]}
                if rule is None:
                    self.assert_valid(**parts)
                else:
                    self.assert_rule(rule, **parts)

    def test_emits(self):
        self.assert_valid(headers=[H, header("i", 8)], emits=["i", "h"])
        self.assert_rule("field", headers=[H], emits=["h", "i"])
        self.assert_rule("field", headers=[H], emits=["i", "i"])


class ValueTest(RulesTest):
    def assert_row(self, rule, value, mask):
        """Check a row of a select of a field with four bits."""
        rows = [(0, None, "accept"), (value, mask, "reject")]
        parts = {"headers": [H], "states": [state("start", "h", select(("h", "b"), rows))]}
        if rule is None:
            self.assert_valid(**parts)
        else:
            self.assert_rule(rule, **parts)

    def test_rows(self):
        for value, mask in ((0, None), (15, None), (0, 0), (15, 15), (0, 15), (10, 14), (8, 8)):
            self.assert_row(None, value, mask)
        for value, mask in ((-1, None), (16, None), (0, 16), (0, -1), (16, 16), (1, 2), (15, 14), (1, 0), (-1, -1)):
            self.assert_row("value", value, mask)

    def test_rows_of_the_port(self):
        self.assert_valid(states=[state("start", None, select(PORT, [(7, 7, "accept")]))])
        self.assert_rule("value", states=[state("start", None, select(PORT, [(8, None, "accept")]))])

    def test_numbers_of_tests(self):
        for sign in ("==", "<"):
            for pair, greatest in ((("h", "a"), 15), (("meta", "m"), 4294967295), (PORT, 7)):
                for number, rule in ((0, None), (greatest, None), (greatest + 1, "value"), (-1, "value")):
                    test = ("not", (sign, pair, number))
                    parts = {"headers": [H], "meta": [("m", 32)], "control": [("if", test, [], [])]}
                    if rule is None:
                        self.assert_valid(**parts)
                    else:
                        self.assert_rule(rule, **parts)

    def test_arguments_of_a_default(self):
        actions = [action("a", [("x", 1), ("y", 32)])]
        for args in ([0, 0], [1, 4294967295]):
            self.assert_valid(actions=actions, tables=[table("t", default=("a", args))])
        for args in ([2, 0], [0, 4294967296], [-1, 0], [0, -1]):
            self.assert_rule("value", actions=actions, tables=[table("t", default=("a", args))])

    def test_arguments_of_a_default_that_is_no_call(self):
        actions = [A, action("b", [("x", 1)])]
        self.assert_rule("table", actions=actions, tables=[table("t", uses=["a", "b"], default=("b", [9, 9]))])
        self.assert_rule("table", actions=actions, tables=[table("t", uses=["a", "b"], default=("c", [9]))])
        # The action exists, and the number of its arguments is right, though no use names it.
        self.assert_rule("value", actions=actions, tables=[table("t", uses=["a"], default=("b", [9]))])


class TableTest(RulesTest):
    def test_uses(self):
        actions = [A, action("b")]
        self.assert_valid(actions=actions, tables=[table("t", uses=["b", "a"])])
        self.assert_rule("table", actions=actions, tables=[table("t", uses=["a", "c"])])
        self.assert_rule("table", actions=actions, tables=[table("t", uses=["a", "b", "a"])])

    def test_action_of_a_default(self):
        actions = [A, action("b")]
        self.assert_rule("table", actions=actions, tables=[table("t", default=("c", []))])
        self.assert_rule("table", actions=actions, tables=[table("t", default=("b", []))])
        self.assert_rule("table", actions=actions, tables=[table("t", uses=[])])
        self.assert_rule("table", actions=[], tables=[table("t", uses=["a"])])

    def test_number_of_arguments_of_a_default(self):
        actions = [action("a", [("x", 1), ("y", 1)])]
        self.assert_valid(actions=actions, tables=[table("t", default=("a", [0, 1]))])
        for args in ([], [0], [0, 0, 0]):
            self.assert_rule("table", actions=actions, tables=[table("t", default=("a", args))])

    def test_keys_with_one_field(self):
        meta = [("m", 4), ("n", 4)]
        keys = [(("meta", "m"), "exact"), (("meta", "n"), "exact"), (PORT, "exact")]
        self.assert_valid(meta=meta, actions=[A], tables=[table("t", keys)])
        twice = [*keys, (("meta", "m"), "mask")]
        self.assert_rule("table", meta=meta, actions=[A], tables=[table("t", twice)])

    def test_two_prefixes(self):
        meta = [("m", 4), ("n", 4)]
        one = [(("meta", "m"), "prefix"), (("meta", "n"), "mask"), (PORT, "mask")]
        self.assert_valid(meta=meta, actions=[A], tables=[table("t", one)])
        two = [(("meta", "m"), "prefix"), (("meta", "n"), "mask"), (PORT, "prefix")]
        self.assert_rule("table", meta=meta, actions=[A], tables=[table("t", two)])


class ControlTest(RulesTest):
    def test_tables(self):
        tables = [table("t"), table("u")]
        self.assert_valid(actions=[A], tables=tables, control=[("apply", "u"), ("apply", "t")])
        self.assert_valid(actions=[A], tables=tables, control=[])
        self.assert_rule("control", actions=[A], tables=tables, control=[("apply", "t"), ("apply", "v")])
        self.assert_rule("control", actions=[A], tables=tables, control=[("apply", "t"), ("apply", "t")])

    def test_table_applied_in_two_lists(self):
        test = ("==", PORT, 0)
        tables = [table("t"), table("u")]
        good = [("if", test, [("apply", "t")], [("apply", "u")])]
        self.assert_valid(actions=[A], tables=tables, control=good)
        for control in (
            [("if", test, [("apply", "t")], [("apply", "t")])],
            [("if", test, [("apply", "t")], []), ("apply", "t")],
            [("apply", "t"), ("if", test, [], [("if", test, [], [("apply", "t")])])],
        ):
            self.assert_rule("control", actions=[A], tables=tables, control=control)

    def test_header_emitted_twice(self):
        headers = [H, header("i", 8)]
        self.assert_valid(headers=headers, emits=["h", "i"])
        self.assert_rule("control", headers=headers, emits=["h", "i", "h"])


class WidthTest(unittest.TestCase):
    def test_widths(self):
        program = make(headers=[header("h", 3, 5), header("i", 32)], meta=[("a", 1), ("m", 31)])
        fields = [("h", "a"), ("h", "b"), ("i", "a"), ("meta", "a"), ("meta", "m"), PORT]
        self.assertEqual([width_of(program, pair) for pair in fields], [3, 5, 32, 1, 31, 3])


class ArgumentsTest(unittest.TestCase):
    def test_example(self):
        with self.assertRaises(RuleError):
            check(("program", "p", [("header", "h", [("a", 4)])], [], [START], [], [], [], []))

    def test_nothing_is_modified(self):
        test = ("not", ("==", ("h", "a"), 1))
        keys = [(("h", "a"), "prefix")]
        parts = {"headers": [H], "meta": [("m", 4)], "actions": [A], "tables": [table("t", keys)], "emits": ["h"]}
        states = [state("start", "h", select(("h", "a"), [(1, None, "accept")]))]
        for control in ([("if", test, [("apply", "t")], [])], [("apply", "t"), ("apply", "t")]):
            program = make(states=states, control=control, **parts)
            kept = copy.deepcopy(program)
            try:
                check(program)
            except RuleError:
                pass
            width_of(program, ("h", "a"))
            self.assertEqual(program, kept)


if __name__ == "__main__":
    unittest.main()
