"""Tests of the cells (point 6.1)."""

import copy
import unittest

from building import header, make
from wholepackets.layout import cell_of, header_cells, valid_cell, widths

PORT = ("packet", "port")


class LayoutTest(unittest.TestCase):
    def test_no_headers(self):
        self.assertEqual(widths(make()), [3, 4])
        self.assertEqual(cell_of(make(), PORT), 0)
        program = make(meta=[("m", 9), ("n", 32)])
        self.assertEqual(widths(program), [3, 4, 9, 32])
        self.assertEqual([cell_of(program, ("meta", name)) for name in "mn"], [2, 3])

    def test_one_header(self):
        program = make(headers=[header("h", 3, 5, 8)], meta=[("a", 2)])
        self.assertEqual(widths(program), [3, 4, 1, 3, 5, 8, 2])
        self.assertEqual(valid_cell(program, "h"), 2)
        self.assertEqual(header_cells(program, "h"), [3, 4, 5])
        self.assertEqual([cell_of(program, ("h", name)) for name in "abc"], [3, 4, 5])
        self.assertEqual(cell_of(program, ("meta", "a")), 6)
        self.assertEqual(cell_of(program, PORT), 0)

    def test_six_headers(self):
        headers = [header("h" + str(k), *[8 + k] * 8) for k in range(6)]
        program = make(headers=headers, meta=[("m" + str(k), k + 1) for k in range(8)])
        expected = [3, 4]
        for at in range(6):
            name = "h" + str(at)
            self.assertEqual(valid_cell(program, name), len(expected))
            self.assertEqual(header_cells(program, name), list(range(len(expected) + 1, len(expected) + 9)))
            self.assertEqual(cell_of(program, (name, "h")), len(expected) + 8)
            expected += [1, *[8 + at] * 8]
        for at in range(8):
            self.assertEqual(cell_of(program, ("meta", "m" + str(at))), len(expected) + at)
        self.assertEqual(widths(program), expected + list(range(1, 9)))

    def test_one_name_for_a_header_and_fields(self):
        program = make(headers=[("header", "x", [("x", 8)]), ("header", "y", [("x", 8)])], meta=[("x", 1), ("y", 1)])
        self.assertEqual([valid_cell(program, name) for name in "xy"], [2, 4])
        self.assertEqual([cell_of(program, (owner, "x")) for owner in ("x", "y", "meta")], [3, 5, 6])
        self.assertEqual(cell_of(program, ("meta", "y")), 7)

    def test_example(self):
        program = make("x", [header("h", 4, 4)], [("m", 9)], [("state", "start", "h", ("go", "accept"))])
        self.assertEqual(widths(program), [3, 4, 1, 4, 4, 9])
        self.assertEqual([cell_of(program, ("h", "b")), cell_of(program, PORT)], [4, 0])

    def test_lists_are_new_and_nothing_is_modified(self):
        program = make(headers=[header("h", 4, 4)], meta=[("m", 9)])
        kept = copy.deepcopy(program)
        widths(program).append(1)
        header_cells(program, "h").append(1)
        cell_of(program, ("meta", "m"))
        valid_cell(program, "h")
        self.assertEqual(program, kept)
        self.assertEqual(widths(program), [3, 4, 1, 4, 4, 9])
        self.assertEqual(header_cells(program, "h"), [3, 4])


if __name__ == "__main__":
    unittest.main()
