"""Tests of the parser unit (points 7.1 and 7.2)."""

import copy
import unittest

from building import header, make, select, state
from wholepackets.layout import widths
from wholepackets.walking import compile_parser, walk

PORT = ("packet", "port")
HEADERS = [header("h", 4, 4), header("i", 3, 13, 8)]


class CompileTest(unittest.TestCase):
    def compiled(self, *states):
        """Return the compiled parser of some states."""
        return compile_parser(make(headers=HEADERS, meta=[("m", 4)], states=states))

    def test_one_step(self):
        self.assertEqual(self.compiled(state("start")), ([(None, [], 0, None, [], -1)], 0))
        self.assertEqual(self.compiled(state("start", None, ("go", "reject"))), ([(None, [], 0, None, [], -2)], 0))
        self.assertEqual(self.compiled(state("start", "h")), ([(2, [(3, 4), (4, 4)], 1, None, [], -1)], 0))

    def test_steps_in_the_order_of_the_text(self):
        steps, start = self.compiled(
            state("last"),
            state("middle", "i", ("go", "last")),
            state("start", "h", ("go", "middle")),
            state("other", None, ("go", "reject")),
        )
        self.assertEqual(start, 2)
        self.assertEqual(
            steps,
            [
                (None, [], 0, None, [], -1),
                (5, [(6, 3), (7, 13), (8, 8)], 3, None, [], 0),
                (2, [(3, 4), (4, 4)], 1, None, [], 1),
                (None, [], 0, None, [], -2),
            ],
        )

    def test_select(self):
        rows = [(1, None, "accept"), (2, 6, "s"), (0, 0, "reject"), (3, 15, "start2")]
        steps, start = self.compiled(
            state("s"), state("start", "h", select(("h", "b"), rows, "s")), state("start2", None, ("go", "reject"))
        )
        self.assertEqual(start, 1)
        expected = [(15, 1, -1), (6, 2, 0), (0, 0, -2), (15, 3, 2)]
        self.assertEqual(steps[1], (2, [(3, 4), (4, 4)], 1, 4, expected, 0))

    def test_select_without_rows(self):
        self.assertEqual(
            self.compiled(state("start", None, select(PORT, [], "reject"))), ([(None, [], 0, 0, [], -2)], 0)
        )

    def test_select_by_the_port(self):
        steps, _ = self.compiled(state("start", "i", select(PORT, [(5, None, "accept"), (4, 4, "reject")], "accept")))
        self.assertEqual(steps, [(5, [(6, 3), (7, 13), (8, 8)], 3, 0, [(7, 5, -1), (4, 4, -2)], -1)])

    def test_mask_of_all_bits(self):
        steps, _ = self.compiled(state("start", "i", select(("i", "b"), [(8191, None, "accept")])))
        self.assertEqual(steps[0][4], [(8191, 8191, -1)])
        program = make(
            headers=[header("h", 32)], states=[state("start", "h", select(("h", "a"), [(0, None, "accept")]))]
        )
        self.assertEqual(compile_parser(program)[0][0][4], [(4294967295, 0, -1)])

    def test_select_of_an_earlier_header(self):
        steps, _ = self.compiled(state("start", "h", ("go", "s")), state("s", "i", select(("h", "a"))))
        self.assertEqual(steps[1], (5, [(6, 3), (7, 13), (8, 8)], 3, 3, [], -1))

    def test_kinds_of_the_parts(self):
        parser = self.compiled(state("start", "h", select(("h", "a"), [(1, None, "accept")])))
        self.assertIs(type(parser), tuple)
        self.assertIs(type(parser[0]), list)
        self.assertIs(type(parser[0][0]), tuple)
        self.assertEqual([type(part) for part in parser[0][0]], [int, list, int, int, list, int])


class WalkTest(unittest.TestCase):
    def walked(self, states, packet, port=0):
        """Walk with the parser of some states."""
        program = make(headers=HEADERS, meta=[("m", 4)], states=states)
        return walk(compile_parser(program), len(widths(program)), packet, port)

    def test_no_header(self):
        self.assertEqual(self.walked([state("start")], [1, 2], 7), ([7, 8, *[0] * 8], [1, 2]))
        self.assertEqual(self.walked([state("start")], [255], 0), ([0, 8, *[0] * 8], [255]))

    def test_one_header(self):
        self.assertEqual(
            self.walked([state("start", "h")], [0x4B, 9, 8], 3), ([3, 8, 1, 4, 11, 0, 0, 0, 0, 0], [9, 8])
        )
        self.assertEqual(
            self.walked([state("start", "i")], [0xA1, 0x02, 0xFF], 3), ([3, 8, 0, 0, 0, 1, 5, 258, 255, 0], [])
        )

    def test_several_headers(self):
        states = [state("s", "i"), state("start", "h", ("go", "t")), state("t", None, ("go", "s"))]
        self.assertEqual(
            self.walked(states, [0xF0, 0x3F, 0xFE, 0x07, 1, 2], 1), ([1, 8, 1, 15, 0, 1, 1, 8190, 7, 0], [1, 2])
        )

    def test_packet_that_is_too_short(self):
        self.assertIsNone(self.walked([state("start", "i")], [1, 2]))
        self.assertEqual(self.walked([state("start", "i")], [1, 2, 3])[1], [])
        states = [state("start", "h", ("go", "s")), state("s", "i")]
        self.assertIsNone(self.walked(states, [1, 2, 3]))
        self.assertEqual(self.walked(states, [1, 2, 3, 4])[1], [])
        self.assertEqual(self.walked(states, [1, 2, 3, 4, 5])[1], [5])

    def test_reject(self):
        self.assertIsNone(self.walked([state("start", None, ("go", "reject"))], [1]))
        self.assertIsNone(self.walked([state("start", "h", ("go", "reject"))], [1, 2]))
        self.assertIsNone(self.walked([state("start", "h", ("go", "s")), state("s", None, ("go", "reject"))], [1, 2]))

    def test_rows(self):
        rows = [(1, None, "reject"), (8, 12, "i"), (0, 3, "h"), (0, 0, "reject")]
        ends = [state("i", "i"), state("h", None, ("go", "accept"))]
        states = [state("start", "h", select(("h", "a"), rows, "accept")), *ends]
        taken = []
        for value in range(16):
            walked = self.walked(states, [value * 16, 1, 2, 3, 4])
            taken.append(None if walked is None else 5 - len(walked[1]))
        self.assertEqual(taken, [1, None, None, None, 1, None, None, None, 4, 4, 4, 4, 1, None, None, None])

    def test_other_target(self):
        states = [state("start", "h", select(("h", "b"), [(1, 3, "accept")], "reject"))]
        found = [self.walked(states, [value]) is not None for value in range(16)]
        self.assertEqual(found, [value % 4 == 1 for value in range(16)])

    def test_select_by_the_port(self):
        way = select(PORT, [(3, None, "reject"), (4, 4, "h")], "i")
        states = [state("start", None, way), state("h", "h"), state("i", "i")]
        left = []
        for port in range(8):
            walked = self.walked(states, [1, 2, 3, 4], port)
            left.append(None if walked is None else len(walked[1]))
        self.assertEqual(left, [1, 1, 1, None, 3, 3, 3, 3])

    def test_example(self):
        program = make(
            "x",
            [header("h", 4, 4)],
            states=[("state", "start", "h", ("select", ("h", "a"), [(1, None, "reject")], "accept"))],
        )
        parser = compile_parser(program)
        self.assertEqual(parser, ([(2, [(3, 4), (4, 4)], 1, 3, [(15, 1, -2)], -1)], 0))
        self.assertEqual(walk(parser, 5, [0x2F, 9], 6), ([6, 8, 1, 2, 15], [9]))
        self.assertIsNone(walk(parser, 5, [0x1F, 9], 6))

    def test_lists_are_new_and_nothing_is_modified(self):
        program = make(headers=HEADERS, states=[state("start", "h", select(("h", "a"), [(1, None, "accept")]))])
        parser = compile_parser(program)
        packet = [1, 2, 3]
        kept = copy.deepcopy((program, parser, packet))
        cells, left = walk(parser, 9, packet, 2)
        self.assertEqual((program, parser, packet), kept)
        cells.append(5)
        left.append(6)
        self.assertEqual((program, parser, packet), kept)
        whole = walk(compile_parser(make()), 2, packet, 2)[1]
        whole.append(7)
        self.assertEqual(packet, [1, 2, 3])
        compile_parser(program)[0].clear()
        self.assertEqual(compile_parser(program), parser)


if __name__ == "__main__":
    unittest.main()
