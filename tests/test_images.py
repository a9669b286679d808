"""Tests of images (points 10.1 to 10.5, and 8.4)."""

import copy
import unittest

from building import START, action, configured, entry, field, header, make, num, param, select, state, table
from wholepackets.errors import BuildError, SwitchError
from wholepackets.images import build, choice, enter_unit, pass_unit, run_image
from wholepackets.meaning import choices, process
from wholepackets.rules import check

PORT = ("packet", "port")
BY_PORT = ("==", PORT, 1)
SEND_PORT = ("send", field("packet", "port"))
SEND_MOVE = ("send", None, ("cell", 0), ("num", 0))


def keyed(keys, entries, uses=("a",), default=("a", [])):
    """Return the memory of a table with some keys and entries."""
    actions = [action("a"), action("b", [("x", 8)], [("send", param("x"))])]
    program = make(
        headers=[header("h", 4, 12, 8, 32)],
        meta=[("m", 5)],
        actions=actions,
        tables=[table("t", keys, uses, default)],
        control=[("apply", "t")],
    )
    return build(configured(program, t=entries))[1][1][0][1]


class BuildTest(unittest.TestCase):
    PROGRAM = make(
        headers=[header("h", 4, 4), header("i", 16)],
        meta=[("m", 3)],
        states=[state("s", "i"), state("start", "h", select(("h", "a"), [(1, None, "s")], "accept"))],
        actions=[action("a", [], [SEND_PORT]), action("b", [("x", 3)], [("send", param("x"))])],
        tables=[table("t", [(PORT, "exact")], ["a", "b"], ("b", [5])), table("u")],
        control=[("if", ("valid", "i"), [("apply", "u"), ("apply", "t")], []), ("if", BY_PORT, [], [])],
        emits=["i", "h"],
    )

    def test_units(self):
        image = build(configured(self.PROGRAM, t=[entry([3], 7, "b", [1])]))
        self.assertIs(type(image), list)
        self.assertEqual(len(image), 14)
        rows = [(15, 1, 0)]
        steps = [(5, [(6, 16)], 2, None, [], -1), (2, [(3, 4), (4, 4)], 1, 3, rows, -1)]
        self.assertEqual(image[0], ("parser", (steps, 1), 8))
        self.assertEqual(image[1], ("stage", {0: (("test", "==", 5, 1, 1, 3), None)}))
        self.assertEqual(image[2], ("stage", {1: (("table", 1, [], 2), ([], ([SEND_MOVE], [])))}))
        move = ("send", None, ("arg", 0), ("num", 0))
        memory = ([([3], [7], [move], [1], 0)], ([move], [5]))
        self.assertEqual(image[3], ("stage", {2: (("table", 0, [(0, "exact", 3)], 3), memory)}))
        self.assertEqual(image[4], ("stage", {3: (("test", "==", 0, 1, -1, -1), None)}))
        self.assertEqual(image[5:13], [("stage", {})] * 8)
        self.assertEqual(image[13], ("emitter", [(5, [(6, 16)]), (2, [(3, 4), (4, 4)])]))

    def test_smallest_image(self):
        image = build((make(), {}))
        parser = ("parser", ([(None, [], 0, None, [], -1)], 0), 2)
        self.assertEqual(image, [parser, *[("stage", {})] * 12, ("emitter", [])])

    def test_several_nodes_in_a_stage(self):
        tables = [table(name) for name in "tuv"]
        control = [("if", BY_PORT, [("apply", "t")], [("apply", "u")]), ("apply", "v")]
        image = build(configured(make(actions=[action("a")], tables=tables, control=control)))
        self.assertEqual([list(unit[1]) for unit in image[1:5]], [[0], [1, 2], [3], []])
        nodes = [image[2][1][index][0] for index in (1, 2)]
        self.assertEqual(nodes, [("table", 0, [], 3), ("table", 1, [], 3)])

    def test_header_that_is_not_emitted(self):
        image = build((make(headers=[header("h", 8), header("i", 8)], emits=["i"]), {}))
        self.assertEqual(image[13], ("emitter", [(4, [(5, 8)])]))

    def test_twelve_stages(self):
        ifs = [("if", BY_PORT, [], [])]
        image = build((make(control=ifs * 12), {}))
        self.assertEqual([list(unit[1]) for unit in image[1:13]], [[index] for index in range(12)])
        for control in (ifs * 13, ifs * 24, [("if", BY_PORT, ifs * 6, ifs * 11), *ifs]):
            check(make(control=control))
            with self.assertRaises(BuildError) as caught:
                build((make(control=control), {}))
            self.assertIsInstance(caught.exception, SwitchError)

    def test_many_nodes_in_twelve_stages(self):
        ifs = [("if", BY_PORT, [], [])]
        image = build((make(control=[("if", BY_PORT, ifs * 10, ifs * 10), *ifs]), {}))
        self.assertEqual([len(unit[1]) for unit in image[1:13]], [1, *[2] * 10, 1])

    def test_example(self):
        ops = [("set", ("h", "b"), ("+", field("h", "a"), num(9))), SEND_PORT]
        program = make(
            "x",
            [header("h", 4, 4)],
            states=[state("start", "h")],
            actions=[action("turn", [], ops)],
            tables=[table("t", [(("h", "a"), "mask")], ["turn"], ("turn", []), 1)],
            control=[("apply", "t")],
            emits=["h"],
        )
        image = build((program, {"t": [entry([(8, 12)], 5, "turn")]}))
        moves = [("put", 4, 4, 2, "+", ("cell", 3), ("num", 9)), SEND_MOVE]
        memory = ([([8], [12], moves, [], 0)], (moves, []))
        self.assertEqual(image[1], ("stage", {0: (("table", 0, [(3, "mask", 4)], -1), memory)}))
        self.assertEqual(image[2], ("stage", {}))
        self.assertEqual(run_image(image, [0x9F, 7], 3), ("out", 3, [146, 7]))

    def test_nothing_is_modified(self):
        given = configured(self.PROGRAM, t=[entry([3], 7, "b", [1]), entry([2], 8, "a")])
        kept = copy.deepcopy(given)
        image = build(given)
        self.assertEqual(given, kept)
        again = copy.deepcopy(image)
        packet = [0x1A, 1, 2, 3]
        treatment = enter_unit(image[0], packet, 3)
        before = copy.deepcopy(treatment)
        for unit in image[1:]:
            pass_unit(unit, treatment)
            choice(unit, treatment)
        run_image(image, packet, 3)
        self.assertEqual((given, image, packet, treatment), (kept, again, [0x1A, 1, 2, 3], before))


class MemoryTest(unittest.TestCase):
    def test_values_and_masks(self):
        keys = [(("h", "a"), "exact"), (("h", "b"), "mask"), (("h", "d"), "prefix"), (("meta", "m"), "mask")]
        rows, _ = keyed(keys, [entry([9, (3, 7), (0xAB000000, 8), (0, 0)], 0)])
        self.assertEqual(rows, [([9, 3, 0xAB000000, 0], [15, 7, 0xFF000000, 0], [], [], 0)])

    def test_masks_of_prefixes(self):
        for length, mask in ((0, 0), (1, 0x80000000), (31, 0xFFFFFFFE), (32, 0xFFFFFFFF)):
            rows, _ = keyed([(("h", "d"), "prefix")], [entry([(0, length)])])
            self.assertEqual(rows, [([0], [mask], [], [], 0)])
        rows, _ = keyed([(PORT, "prefix")], [entry([(4, 2)])])
        self.assertEqual(rows, [([4], [6], [], [], 0)])

    def test_masks_of_exact(self):
        masks = {("h", "a"): 15, ("h", "b"): 4095, ("h", "d"): 4294967295, ("meta", "m"): 31, PORT: 7}
        for pair, mask in masks.items():
            rows, _ = keyed([(pair, "exact")], [entry([1])])
            self.assertEqual(rows, [([1], [mask], [], [], 0)])

    def test_no_keys(self):
        rows, _ = keyed([], [entry([], 3), entry([], 4)])
        self.assertEqual(rows, [([], [], [], [], 1), ([], [], [], [], 0)])

    def test_moves_and_arguments(self):
        move = ("send", None, ("arg", 0), ("num", 0))
        memory = keyed([(PORT, "exact")], [entry([1], 0, "b", [7]), entry([2], 0, "a")], ["a", "b"], ("b", [255]))
        self.assertEqual(memory, ([([1], [7], [move], [7], 0), ([2], [7], [], [], 1)], ([move], [255])))

    def order(self, keys, entries):
        """Return the indexes of the rows of a table."""
        return [row[4] for row in keyed(keys, entries)[0]]

    def test_order_by_priority(self):
        entries = [entry([(k, 15)], priority) for k, priority in enumerate([3, 255, 0, 4])]
        self.assertEqual(self.order([(("h", "a"), "mask")], entries), [1, 3, 0, 2])

    def test_order_by_length(self):
        entries = [entry([(0, length)], 5) for length in (2, 4, 0, 3)]
        self.assertEqual(self.order([(("h", "a"), "prefix")], entries), [1, 3, 0, 2])
        self.assertEqual(self.order([(("h", "a"), "mask")], entries), [0, 1, 2, 3])
        entries = [entry([(0, 4)], 4), entry([(0, 0)], 5), entry([(0, 1)], 5)]
        self.assertEqual(self.order([(("h", "a"), "prefix")], entries), [2, 1, 0])

    def test_order_by_installation(self):
        entries = [entry([(0, 1)], 5), entry([(8, 1)], 6), entry([(8, 1)], 5), entry([(0, 1)], 6), entry([(0, 1)], 5)]
        self.assertEqual(self.order([(("h", "a"), "prefix")], entries), [1, 3, 0, 2, 4])


class TreatmentTest(unittest.TestCase):
    PROGRAM = make(
        headers=[header("h", 8)],
        meta=[("m", 8)],
        states=[state("start", "h", select(("h", "a"), [(255, None, "reject")], "accept"))],
        actions=[
            action("to", [("p", 8)], [("send", param("p"))]),
            action("gone", [], [("remove", "h"), SEND_PORT]),
            action("none"),
        ],
        tables=[
            table("t", [(("h", "a"), "exact")], ["to", "gone", "none"], ("none", [])),
            table("u", [(("h", "a"), "mask")], ["to", "none"], ("none", [])),
        ],
        control=[("if", ("<", ("h", "a"), 100), [("apply", "t")], [("apply", "u")])],
        emits=["h"],
    )
    ENTRIES = {
        "t": [entry([1], 0, "to", [3]), entry([2], 0, "gone"), entry([3], 0, "to", [8])],
        "u": [entry([(128, 128)], 0, "to", [7])],
    }

    def setUp(self):
        self.image = build(configured(self.PROGRAM, **self.ENTRIES))

    def passed(self, packet, port=5):
        """Return the treatment of a packet behind each unit."""
        treatments = [enter_unit(self.image[0], packet, port)]
        for unit in self.image[1:]:
            treatments.append(pass_unit(unit, treatments[-1]))
        return treatments

    def chosen(self, packet, port=5):
        """Return the choices of the units from 1 to 13 for a packet."""
        treatments = self.passed(packet, port)
        return [choice(unit, treatment) for unit, treatment in zip(self.image[1:], treatments)]

    def test_packet_that_is_sent(self):
        cells = [5, 8, 1, 1, 0]
        sent = [5, 3, 1, 1, 0]
        self.assertEqual(
            self.passed([1, 9]),
            [("run", cells, [9], 0), ("run", cells, [9], 1), *[("run", sent, [9], -1)] * 11, ("out", 3, [1, 9])],
        )

    def test_other_list(self):
        cells = [5, 8, 1, 130, 0]
        sent = [5, 7, 1, 130, 0]
        self.assertEqual(
            self.passed([130]),
            [("run", cells, [], 0), ("run", cells, [], 2), *[("run", sent, [], -1)] * 11, ("out", 7, [130])],
        )

    def test_packet_that_the_parser_drops(self):
        self.assertEqual(self.passed([255, 1]), [("drop", "parse")] * 14)

    def test_packet_without_an_out_port(self):
        for value in (0, 3, 100):
            treatments = self.passed([value, 9])
            self.assertEqual([treatment[0] for treatment in treatments], ["run"] * 13 + ["drop"])
            self.assertEqual(treatments[13], ("drop", "control"))
            self.assertEqual(treatments[12], ("run", [5, 8, 1, value, 0], [9], -1))

    def test_packet_that_becomes_empty(self):
        treatments = self.passed([2])
        self.assertEqual(treatments[2], ("run", [5, 5, 0, 0, 0], [], -1))
        self.assertEqual(treatments[13], ("drop", "size"))
        self.assertEqual(self.passed([2, 7])[13], ("out", 5, [7]))

    def test_packet_that_becomes_too_long(self):
        program = make(
            headers=[header("h", 8)],
            actions=[action("a", [], [("add", "h"), SEND_PORT])],
            tables=[table("t")],
            control=[("apply", "t")],
            emits=["h"],
        )
        image = build(configured(program))
        self.assertEqual(run_image(image, [7] * 63, 4), ("out", 4, [0, *[7] * 63]))
        self.assertEqual(run_image(image, [7] * 64, 4), ("drop", "size"))

    def test_node_of_another_stage(self):
        cells = [5, 8, 1, 1, 0]
        for node, stage in ((0, 1), (1, 2), (2, 2)):
            treatment = ("run", cells, [9], node)
            for unit in range(1, 13):
                changed = pass_unit(self.image[unit], treatment) != treatment
                self.assertEqual(changed, unit == stage)
        for unit in range(1, 13):
            self.assertEqual(pass_unit(self.image[unit], ("run", cells, [9], -1)), ("run", cells, [9], -1))

    def test_drop_is_not_changed(self):
        for reason in ("parse", "control", "size"):
            for unit in self.image[1:]:
                self.assertEqual(pass_unit(unit, ("drop", reason)), ("drop", reason))

    def test_program_without_nodes(self):
        image = build((make(), {}))
        treatment = enter_unit(image[0], [1, 2], 6)
        self.assertEqual(treatment, ("run", [6, 8], [1, 2], 0))
        self.assertEqual([pass_unit(unit, treatment) for unit in image[1:13]], [treatment] * 12)
        self.assertEqual(pass_unit(image[13], treatment), ("drop", "control"))

    def test_emitter(self):
        program = make(headers=[header("h", 3, 13), header("i", 8)], meta=[("m", 8)], emits=["i", "h"])
        emitter = build((program, {}))[13]
        for valid, expected in (((1, 1), [9, 0xBF, 0x01, 4]), ((1, 0), [0xBF, 0x01, 4]), ((0, 1), [9, 4])):
            cells = [0, 6, valid[0], 5, 0x1F01, valid[1], 9, 77]
            self.assertEqual(pass_unit(emitter, ("run", cells, [4], -1)), ("out", 6, expected))
        self.assertEqual(pass_unit(emitter, ("run", [0, 8, 1, 0, 0, 1, 0, 0], [4], -1)), ("drop", "control"))
        self.assertEqual(pass_unit(emitter, ("run", [0, 0, 0, 0, 0, 0, 0, 0], [], -1)), ("drop", "size"))

    def test_choices(self):
        none = [None] * 11
        self.assertEqual(self.chosen([1, 9]), [None, (0, 0), *none])
        self.assertEqual(self.chosen([3]), [None, (0, 2), *none])
        self.assertEqual(self.chosen([0]), [None, (0, -1), *none])
        self.assertEqual(self.chosen([130]), [None, (1, 0), *none])
        self.assertEqual(self.chosen([100]), [None, (1, -1), *none])
        self.assertEqual(self.chosen([255]), [None] * 13)

    def test_choice_of_each_kind_of_treatment(self):
        cells = [5, 8, 1, 2, 0]
        expected = {0: {}, 1: {2: (0, 1)}, 2: {2: (1, -1)}, -1: {}}
        for node, found in expected.items():
            for at, unit in enumerate(self.image[1:], 1):
                self.assertEqual(choice(unit, ("run", cells, [9], node)), found.get(at))
        for treatment in (("drop", "parse"), ("drop", "control"), ("drop", "size"), ("out", 1, [1])):
            self.assertEqual([choice(unit, treatment) for unit in self.image[1:]], [None] * 13)

    def test_choice_is_made_from_the_cells_before_the_unit(self):
        program = make(
            headers=[header("h", 8)],
            states=[state("start", "h")],
            actions=[action("a", [], [("set", ("h", "a"), num(1))])],
            tables=[table("t", [(("h", "a"), "exact")]), table("u", [(("h", "a"), "exact")])],
            control=[("apply", "t"), ("apply", "u")],
        )
        given = configured(program, t=[entry([0]), entry([1])], u=[entry([0]), entry([1])])
        image = build(given)
        treatment = enter_unit(image[0], [0], 0)
        self.assertEqual(choice(image[1], treatment), (0, 0))
        self.assertEqual(choice(image[2], pass_unit(image[1], treatment)), (1, 1))

    def test_results_are_those_of_the_meaning(self):
        given = configured(self.PROGRAM, **self.ENTRIES)
        for value in range(256):
            for packet in ([value], [value, 9], [value, *[9] * 63]):
                self.assertEqual(run_image(self.image, packet, 2), process(given, packet, 2))
                found = [made for made in self.chosen(packet, 2) if made is not None]
                self.assertEqual(found, choices(given, packet, 2))

    def test_returned_lists_may_be_changed(self):
        packet = [1, 9]
        kept = copy.deepcopy(self.image)
        run_image(self.image, packet, 2)[2].append(4)
        bare = build((make(states=[START]), {}))
        self.assertEqual(enter_unit(bare[0], packet, 2), ("run", [2, 8], [1, 9], 0))
        self.assertIsNot(enter_unit(bare[0], packet, 2)[2], packet)
        self.assertEqual((self.image, packet), (kept, [1, 9]))


if __name__ == "__main__":
    unittest.main()
