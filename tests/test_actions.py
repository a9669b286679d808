"""Tests of compiled actions (points 9.1 and 9.2)."""

import copy
import unittest

from building import action, field, header, make, num, param
from wholepackets.actions import compile_action, execute

HEADERS = [header("h", 4, 12), header("i", 8)]
PARAMS = [("x", 3), ("y", 32)]
# The cells: 0 and 1 the ports, 2 to 4 the header h, 5 and 6 the header i, 7 and 8 of `meta`.
META = [("m", 5), ("n", 1)]


def compiled(*ops):
    """Return the moves of an action with the parameters x and y."""
    actions = [action("other", [("y", 1)], [("drop",)]), action("a", PARAMS, ops)]
    return compile_action(make(headers=HEADERS, meta=META, actions=actions), "a")


class CompileTest(unittest.TestCase):
    def test_no_operations(self):
        self.assertEqual(compiled(), [])

    def test_set_of_fields(self):
        for pair, head in (
            (("h", "a"), ("put", 3, 4, 2)),
            (("h", "b"), ("put", 4, 12, 2)),
            (("i", "a"), ("put", 6, 8, 5)),
            (("meta", "m"), ("put", 7, 5, None)),
            (("meta", "n"), ("put", 8, 1, None)),
        ):
            self.assertEqual(compiled(("set", pair, num(3))), [(*head, None, ("num", 3), ("num", 0))])

    def test_operands(self):
        for operand, expected in (
            (num(0), ("num", 0)),
            (num(4294967295), ("num", 4294967295)),
            (param("x"), ("arg", 0)),
            (param("y"), ("arg", 1)),
            (field("h", "b"), ("cell", 4)),
            (field("i", "a"), ("cell", 6)),
            (field("meta", "m"), ("cell", 7)),
            (field("packet", "port"), ("cell", 0)),
        ):
            self.assertEqual(compiled(("send", operand)), [("send", None, expected, ("num", 0))])
            for sign in "+-&|^":
                moves = compiled(("send", (sign, operand, num(9))), ("set", ("h", "a"), (sign, param("x"), operand)))
                self.assertEqual(
                    moves, [("send", sign, expected, ("num", 9)), ("put", 3, 4, 2, sign, ("arg", 0), expected)]
                )

    def test_drop(self):
        self.assertEqual(compiled(("drop",)), [("send", None, ("num", 8), ("num", 0))])

    def test_add_and_remove(self):
        self.assertEqual(compiled(("add", "h")), [("add", 2, [3, 4])])
        self.assertEqual(compiled(("remove", "i")), [("remove", 5, [6])])

    def test_moves_in_order(self):
        moves = compiled(("drop",), ("add", "i"), ("drop",), ("remove", "h"))
        self.assertEqual([move[0] for move in moves], ["send", "add", "send", "remove"])

    def test_action_by_its_name(self):
        program = make(actions=[action("a", [], [("drop",)]), action("b", [], [])])
        self.assertEqual(compile_action(program, "b"), [])
        self.assertEqual(len(compile_action(program, "a")), 1)


class ExecuteTest(unittest.TestCase):
    # The header h is valid, the header i is not.
    CELLS = [6, 8, 1, 5, 0x123, 0, 0, 17, 1]

    def executed(self, *ops, args=(2, 0xABCDEF), cells=None):
        """Return which cells operations change, and to what."""
        before = self.CELLS if cells is None else cells
        after = execute(compiled(*ops), list(before), list(args))
        self.assertEqual(len(after), len(before))
        return {at: new for at, (old, new) in enumerate(zip(before, after)) if old != new}

    def test_no_moves(self):
        self.assertEqual(self.executed(), {})

    def test_put(self):
        self.assertEqual(self.executed(("set", ("h", "a"), num(9))), {3: 9})
        self.assertEqual(self.executed(("set", ("h", "b"), param("x"))), {4: 2})
        self.assertEqual(self.executed(("set", ("h", "b"), param("y"))), {4: 0xDEF})
        self.assertEqual(self.executed(("set", ("meta", "m"), field("packet", "port"))), {7: 6})
        self.assertEqual(self.executed(("set", ("meta", "n"), field("h", "b"))), {})
        self.assertEqual(self.executed(("set", ("meta", "n"), num(0))), {8: 0})

    def test_operators(self):
        first, second = 0x123, 17
        for sign, value in (
            ("+", first + second),
            ("-", first - second),
            ("&", first & second),
            ("|", first | second),
            ("^", first ^ second),
        ):
            got = self.executed(("set", ("h", "b"), (sign, field("h", "b"), field("meta", "m"))))
            self.assertEqual(got, {4: value})

    def test_values_beyond_the_width(self):
        self.assertEqual(self.executed(("set", ("h", "a"), num(16))), {3: 0})
        self.assertEqual(self.executed(("set", ("meta", "m"), ("+", num(4294967295), num(4294967295)))), {7: 30})

    def test_negative_values(self):
        self.assertEqual(self.executed(("set", ("h", "b"), ("-", num(0), num(1)))), {4: 0xFFF})
        self.assertEqual(self.executed(("set", ("h", "a"), ("-", num(2), num(19)))), {3: 15})

    def test_put_of_a_header_that_is_not_valid(self):
        self.assertEqual(self.executed(("set", ("i", "a"), num(9))), {})
        self.assertEqual(self.executed(("add", "i"), ("set", ("i", "a"), num(9))), {5: 1, 6: 9})

    def test_send(self):
        for number in range(8):
            self.assertEqual(self.executed(("send", num(number))), {1: number})
        for operand in (num(8), num(9), num(4294967295), ("-", num(0), num(1)), ("-", num(1), num(4294967295))):
            self.assertEqual(self.executed(("send", operand), cells=[0, 3, *self.CELLS[2:]]), {1: 8})
        self.assertEqual(self.executed(("send", ("-", num(8), num(1)))), {1: 7})
        self.assertEqual(self.executed(("send", param("x"))), {1: 2})
        self.assertEqual(self.executed(("send", field("packet", "port"))), {1: 6})

    def test_drop(self):
        self.assertEqual(self.executed(("send", num(3)), ("drop",)), {})
        self.assertEqual(self.executed(("drop",), cells=[0, 3, *self.CELLS[2:]]), {1: 8})

    def test_add(self):
        self.assertEqual(self.executed(("add", "h")), {})
        self.assertEqual(self.executed(("add", "i")), {5: 1})
        self.assertEqual(execute([("add", 2, [3, 4])], [0, 8, 0, 7, 7, 7], []), [0, 8, 1, 0, 0, 7])
        self.assertEqual(execute([("add", 2, [3, 4])], [0, 8, 1, 7, 7, 7], []), [0, 8, 1, 7, 7, 7])

    def test_remove(self):
        self.assertEqual(self.executed(("remove", "h")), {2: 0, 3: 0, 4: 0})
        self.assertEqual(self.executed(("remove", "i")), {})
        self.assertEqual(self.executed(("remove", "h"), ("add", "h")), {3: 0, 4: 0})
        self.assertEqual(self.executed(("remove", "h"), ("set", ("h", "a"), num(1)), ("add", "h")), {3: 0, 4: 0})

    def test_moves_in_order(self):
        ops = [
            ("set", ("meta", "m"), field("h", "a")),
            ("set", ("h", "a"), num(0)),
            ("set", ("h", "b"), field("meta", "m")),
        ]
        self.assertEqual(self.executed(*ops), {3: 0, 4: 5, 7: 5})

    def test_example(self):
        moves = [("put", 2, 4, None, "-", ("num", 1), ("arg", 0)), ("send", None, ("cell", 2), ("num", 0))]
        self.assertEqual(execute(moves, [0, 8, 0], [3]), [0, 8, 14])

    def test_nothing_is_modified(self):
        moves = compiled(("set", ("h", "a"), param("x")), ("remove", "h"), ("add", "i"), ("send", num(3)))
        cells = list(self.CELLS)
        args = [1, 2]
        kept = copy.deepcopy((moves, cells, args))
        execute(moves, cells, args).append(1)
        execute([], cells, args).append(1)
        self.assertEqual((moves, cells, args), kept)

    def test_program_is_not_modified(self):
        ops = [("add", "h"), ("set", ("h", "a"), ("+", param("x"), num(1)))]
        program = make(headers=HEADERS, actions=[action("a", PARAMS, ops)])
        kept = copy.deepcopy(program)
        moves = compile_action(program, "a")
        moves[0][2].append(1)
        moves.clear()
        self.assertEqual(program, kept)
        self.assertEqual(compile_action(program, "a")[0], ("add", 2, [3, 4]))


if __name__ == "__main__":
    unittest.main()
