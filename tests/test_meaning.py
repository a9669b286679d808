"""Tests of the meaning of a configuration (points 5.1 to 5.7)."""

import copy
import unittest

from building import START, action, configured, entry, field, header, make, num, param, select, state, table
from wholepackets.meaning import choices, process

PORT = ("packet", "port")
SEND_PORT = ("send", field("packet", "port"))
DROPPED = ("drop", "parse")


def acting(*ops, headers=(), meta=(), states=(START,), emits=None):
    """Return a configuration that executes operations, and emits all headers."""
    if emits is None:
        emits = [part[1] for part in headers]
    return configured(
        make(
            headers=headers,
            meta=meta,
            states=states,
            actions=[action("a", [], ops)],
            tables=[table("t")],
            control=[("apply", "t")],
            emits=emits,
        )
    )


class ParsingTest(unittest.TestCase):
    def parsed(self, headers, states, packet, port=5):
        """Return the result for a packet that is sent to its own port with all headers that are valid."""
        return process(acting(SEND_PORT, headers=headers, states=states), packet, port)

    def test_payload_only(self):
        self.assertEqual(self.parsed([], [START], [1, 2, 3]), ("out", 5, [1, 2, 3]))

    def test_fields_cross_octets(self):
        headers = [header("h", 3, 7, 13, 1), header("o", 8, 32)]
        states = [state("start", "h")]
        packet = [0b10110011, 0b01010101, 0b01100101, 99]
        for name, value in (("a", 0b101), ("b", 0b1001101), ("c", 0b0101010110010), ("d", 1)):
            ops = [("remove", "h"), ("add", "o"), ("set", ("o", "b"), field("meta", "m")), SEND_PORT]
            ops = [("set", ("meta", "m"), field("h", name)), *ops]
            given = acting(*ops, headers=headers, meta=[("m", 32)], states=states)
            octets = [0, 0, *[value >> shift & 255 for shift in (24, 16, 8, 0)]]
            self.assertEqual(process(given, packet, 1), ("out", 1, [*octets[1:], 99]))

    def test_widest_header(self):
        self.assertEqual(
            self.parsed([header("h", 32, 32, 32, 32)], [state("start", "h")], list(range(240, 256))),
            ("out", 5, list(range(240, 256))),
        )

    def test_packet_that_is_too_short(self):
        headers = [header("h", 8, 8), header("i", 16)]
        states = [state("start", "h", ("go", "s")), state("s", "i")]
        self.assertEqual(self.parsed(headers, states, [1, 2, 3, 4]), ("out", 5, [1, 2, 3, 4]))
        for many in (1, 2, 3):
            self.assertEqual(self.parsed(headers, states, [1, 2, 3, 4][:many]), DROPPED)

    def test_accept_and_reject(self):
        self.assertEqual(self.parsed([], [state("start", None, ("go", "reject"))], [1]), DROPPED)
        states = [state("reached", None, ("go", "reject")), state("start", None, ("go", "reached"))]
        self.assertEqual(self.parsed([], states, [1]), DROPPED)
        states = [state("last"), state("start", None, ("go", "last"))]
        self.assertEqual(self.parsed([], states, [1]), ("out", 5, [1]))

    def test_select_rows(self):
        rows = [(1, None, "reject"), (8, 12, "accept"), (0, 3, "more"), (0, 0, "reject")]
        headers = [header("h", 4, 4), header("i", 8)]
        states = [state("start", "h", select(("h", "a"), rows, "accept")), state("more", "i")]
        found = []
        for value in range(16):
            # The packet is just long enough for the first header.
            found.append(self.parsed(headers, states, [value * 16]) != DROPPED)
        # The values 0, 4 and 12 need a second header, 8 is taken by the second row.
        self.assertEqual(found, [8 <= value < 12 for value in range(16)])
        self.assertEqual(self.parsed(headers, states, [0x40, 7]), ("out", 5, [0x40, 7]))

    def test_select_other_target(self):
        states = [state("start", None, select(PORT, [(5, None, "accept")], "reject"))]
        for port in range(8):
            expected = ("out", 5, [1]) if port == 5 else DROPPED
            self.assertEqual(self.parsed([], states, [1], port), expected)

    def test_select_by_the_port_under_a_mask(self):
        states = [state("start", None, select(PORT, [(2, 6, "reject")], "accept"))]
        found = [self.parsed([], states, [1], port) == DROPPED for port in range(8)]
        self.assertEqual(found, [port in (2, 3) for port in range(8)])

    def test_select_of_an_earlier_header(self):
        headers = [header("h", 8), header("i", 8)]
        way = select(("h", "a"), [(7, None, "reject")])
        states = [state("start", "h", ("go", "s")), state("s", "i", way)]
        self.assertEqual(self.parsed(headers, states, [7, 8]), DROPPED)
        self.assertEqual(self.parsed(headers, states, [8, 7]), ("out", 5, [8, 7]))


class OperationTest(unittest.TestCase):
    HEADERS = [header("h", 4, 12), header("i", 8)]
    STATES = [state("start", "h")]

    def treated(self, *ops, packet=(0x35, 0x67, 9), port=6):
        """Execute operations on a packet with the header h, and send it to its own port."""
        given = acting(*ops, SEND_PORT, headers=self.HEADERS, meta=[("m", 5)], states=self.STATES)
        return process(given, list(packet), port)

    def test_set(self):
        self.assertEqual(self.treated(("set", ("h", "a"), num(12))), ("out", 6, [0xC5, 0x67, 9]))
        self.assertEqual(self.treated(("set", ("h", "b"), num(0))), ("out", 6, [0x30, 0, 9]))
        self.assertEqual(self.treated(("set", ("h", "a"), field("packet", "port"))), ("out", 6, [0x65, 0x67, 9]))

    def test_set_beyond_the_width(self):
        self.assertEqual(self.treated(("set", ("h", "a"), num(16))), ("out", 6, [0x05, 0x67, 9]))
        self.assertEqual(self.treated(("set", ("h", "b"), num(4294967295))), ("out", 6, [0x3F, 0xFF, 9]))
        self.assertEqual(self.treated(("set", ("h", "a"), field("h", "b"))), ("out", 6, [0x75, 0x67, 9]))

    def test_operators(self):
        first, second = 0x567, 0x3
        for sign, value in (
            ("+", first + second),
            ("-", first - second),
            ("&", first & second),
            ("|", first | second),
            ("^", first ^ second),
        ):
            got = self.treated(("set", ("h", "b"), (sign, field("h", "b"), field("h", "a"))))
            self.assertEqual(got, ("out", 6, [0x30 + value // 256, value % 256, 9]))

    def test_results_beyond_the_width(self):
        got = self.treated(("set", ("h", "b"), ("+", num(4294967295), num(4294967295))))
        self.assertEqual(got, ("out", 6, [0x3F, 0xFE, 9]))
        got = self.treated(("set", ("h", "a"), ("|", num(0x120), num(1))))
        self.assertEqual(got, ("out", 6, [0x15, 0x67, 9]))

    def test_negative_results(self):
        got = self.treated(("set", ("h", "a"), ("-", num(0), num(1))))
        self.assertEqual(got, ("out", 6, [0xF5, 0x67, 9]))
        got = self.treated(("set", ("h", "b"), ("-", num(1), num(4294967295))))
        self.assertEqual(got, ("out", 6, [0x30, 0x02, 9]))

    def test_operations_in_order(self):
        ops = [("set", ("h", "a"), ("+", field("h", "a"), num(1)))] * 3
        self.assertEqual(self.treated(*ops), ("out", 6, [0x65, 0x67, 9]))
        ops = [
            ("set", ("meta", "m"), field("h", "a")),
            ("set", ("h", "a"), num(0)),
            ("set", ("h", "b"), field("meta", "m")),
        ]
        self.assertEqual(self.treated(*ops), ("out", 6, [0, 3, 9]))

    def test_meta_keeps_its_width(self):
        ops = [("set", ("meta", "m"), num(33)), ("set", ("h", "b"), field("meta", "m"))]
        self.assertEqual(self.treated(*ops), ("out", 6, [0x30, 1, 9]))
        ops = [("set", ("meta", "m"), ("-", num(0), num(2))), ("set", ("h", "b"), field("meta", "m"))]
        self.assertEqual(self.treated(*ops), ("out", 6, [0x30, 30, 9]))

    def test_fields_that_are_0(self):
        ops = [("set", ("h", "b"), field("meta", "m"))]
        self.assertEqual(self.treated(*ops), ("out", 6, [0x30, 0, 9]))
        ops = [("set", ("h", "b"), field("i", "a"))]
        self.assertEqual(self.treated(*ops), ("out", 6, [0x30, 0, 9]))

    def test_set_of_a_header_that_is_not_valid(self):
        ops = [("set", ("i", "a"), num(7)), ("set", ("h", "b"), field("i", "a"))]
        self.assertEqual(self.treated(*ops), ("out", 6, [0x30, 0, 9]))
        ops = [("set", ("i", "a"), num(7)), ("add", "i")]
        self.assertEqual(self.treated(*ops), ("out", 6, [0x35, 0x67, 0, 9]))
        ops = [("remove", "h"), ("set", ("h", "a"), num(7)), ("add", "h")]
        self.assertEqual(self.treated(*ops), ("out", 6, [0, 0, 9]))

    def test_add(self):
        self.assertEqual(self.treated(("add", "i")), ("out", 6, [0x35, 0x67, 0, 9]))
        ops = [("add", "i"), ("set", ("i", "a"), num(7)), ("add", "i")]
        self.assertEqual(self.treated(*ops), ("out", 6, [0x35, 0x67, 7, 9]))
        self.assertEqual(self.treated(("add", "h")), ("out", 6, [0x35, 0x67, 9]))

    def test_remove(self):
        self.assertEqual(self.treated(("remove", "h")), ("out", 6, [9]))
        self.assertEqual(self.treated(("remove", "i")), ("out", 6, [0x35, 0x67, 9]))
        self.assertEqual(self.treated(("remove", "h"), ("add", "h")), ("out", 6, [0, 0, 9]))
        ops = [("add", "i"), ("remove", "h"), ("set", ("i", "a"), ("+", field("h", "b"), num(1)))]
        self.assertEqual(self.treated(*ops), ("out", 6, [1, 9]))


class OutPortTest(unittest.TestCase):
    def sent(self, *ops, port=3):
        """Return the result for a packet of one octet."""
        return process(acting(*ops), [9], port)

    def test_send(self):
        for number in range(8):
            self.assertEqual(self.sent(("send", num(number))), ("out", number, [9]))
        for number in (8, 9, 16, 4294967295):
            self.assertEqual(self.sent(("send", num(number))), ("drop", "control"))

    def test_send_of_an_expression(self):
        self.assertEqual(self.sent(("send", ("-", num(0), num(1)))), ("drop", "control"))
        self.assertEqual(self.sent(("send", ("-", num(8), num(1)))), ("out", 7, [9]))
        self.assertEqual(self.sent(("send", ("+", num(7), num(1)))), ("drop", "control"))
        self.assertEqual(self.sent(("send", ("^", field("packet", "port"), num(1)))), ("out", 2, [9]))
        self.assertEqual(self.sent(SEND_PORT), ("out", 3, [9]))

    def test_send_of_no_port_after_a_send(self):
        for number in (num(8), ("-", num(0), num(1))):
            self.assertEqual(self.sent(("send", num(1)), ("send", number)), ("drop", "control"))
            self.assertEqual(self.sent(("send", number), ("send", num(1))), ("out", 1, [9]))

    def test_drop(self):
        self.assertEqual(self.sent(("drop",)), ("drop", "control"))
        self.assertEqual(self.sent(("send", num(1)), ("drop",)), ("drop", "control"))
        self.assertEqual(self.sent(("drop",), ("send", num(1))), ("out", 1, [9]))

    def test_no_out_port(self):
        self.assertEqual(self.sent(), ("drop", "control"))
        self.assertEqual(process((make(), {}), [9], 3), ("drop", "control"))


class ControlTest(unittest.TestCase):
    def way(self, test, value, then=("one",), other=("two",)):
        """Return the port to which a packet goes by an `if`."""
        names = ["one", "two", "three"]
        actions = [action(name, [], [("send", num(number))]) for number, name in enumerate(names, 1)]
        tables = [table(name, [], [name], (name, [])) for name in names]
        control = [("if", test, [("apply", name) for name in then], [("apply", name) for name in other])]
        headers = [header("h", 8), header("i", 8)]
        program = make(
            headers=headers,
            meta=[("m", 3)],
            states=[state("start", "h")],
            actions=actions,
            tables=tables,
            control=control,
        )
        return process(configured(program), [value, 0], 6)[1]

    def test_kinds_of_tests(self):
        h_a = ("h", "a")
        for test, expected in (
            (("==", h_a, 5), [2, 2, 2, 2, 2, 1, 2]),
            (("<", h_a, 3), [1, 1, 1, 2, 2, 2, 2]),
            (("<", h_a, 0), [2] * 7),
            (("==", PORT, 6), [1] * 7),
            (("<", PORT, 6), [2] * 7),
            (("==", ("meta", "m"), 0), [1] * 7),
            (("==", ("i", "a"), 0), [1] * 7),
            (("valid", "h"), [1] * 7),
            (("valid", "i"), [2] * 7),
        ):
            for _ in range(8):
                self.assertEqual([self.way(test, value) for value in range(7)], expected)
                test = ("not", test)
                expected = [3 - port for port in expected]

    def test_all_statements_of_a_list(self):
        test = ("==", ("h", "a"), 1)
        self.assertEqual([self.way(test, value, ("one", "three"), ("two",)) for value in (0, 1)], [2, 3])
        self.assertEqual([self.way(test, value, ("one",), ("two", "three")) for value in (0, 1)], [3, 1])

    def test_empty_lists(self):
        test = ("==", ("h", "a"), 1)
        self.assertEqual([self.way(test, value, (), ("two",)) for value in (0, 1)], [2, "control"])
        self.assertEqual([self.way(test, value, ("one",), ()) for value in (0, 1)], ["control", 1])

    def test_valid_changes_with_add_and_remove(self):
        actions = [
            action("add_i", [], [("add", "i")]),
            action("remove_h", [], [("remove", "h")]),
            action("yes", [], [("send", num(1))]),
        ]
        tables = [table(name, [], [name], (name, [])) for name in ("add_i", "remove_h", "yes")]
        inner = ("if", ("valid", "i"), [("if", ("valid", "h"), [], [("apply", "yes")])], [])
        control = [("apply", "add_i"), ("apply", "remove_h"), inner]
        program = make(
            headers=[header("h", 8), header("i", 8)],
            states=[state("start", "h")],
            actions=actions,
            tables=tables,
            control=control,
            emits=["h", "i"],
        )
        self.assertEqual(process(configured(program), [5, 6], 0), ("out", 1, [0, 6]))


class TableTest(unittest.TestCase):
    PROGRAM = make(
        headers=[header("h", 8, 8)],
        meta=[("m", 8)],
        states=[state("start", "h")],
        actions=[
            action("put", [("x", 8), ("p", 3)], [("set", ("h", "b"), ("+", param("x"), num(1))), ("send", param("p"))]),
            action("note", [("x", 8)], [("set", ("meta", "m"), ("+", field("meta", "m"), param("x")))]),
            action("show", [], [("set", ("h", "b"), field("meta", "m"))]),
        ],
        tables=[
            table("unused", [], ["show"], ("show", [])),
            table("second", [(("meta", "m"), "exact"), (("h", "a"), "mask")], ["show"], ("show", [])),
            table("first", [(("h", "a"), "prefix")], ["note", "put"], ("note", [3])),
            table("last", [(PORT, "exact")], ["put", "show"], ("put", [0, 0])),
        ],
        control=[
            ("apply", "first"),
            ("if", ("==", ("meta", "m"), 9), [("apply", "last")], [("apply", "second")]),
        ],
        emits=["h"],
    )
    ENTRIES = {
        "first": [
            entry([(0, 1)], 5, "note", [9]),
            entry([(0, 0)], 5, "put", [64, 4]),
            entry([(192, 2)], 9, "put", [255, 7]),
        ],
        "second": [entry([0, (1, 1)], 0, "show")],
        "last": [entry([1], 0, "put", [1, 1]), entry([2], 0, "show")],
    }

    def setUp(self):
        self.given = configured(self.PROGRAM, **self.ENTRIES)

    def test_arguments_of_entries_and_of_defaults(self):
        self.assertEqual(process(self.given, [0, 0], 1), ("out", 1, [0, 2]))
        self.assertEqual(process(self.given, [0, 0], 5), ("out", 0, [0, 1]))
        self.assertEqual(process(self.given, [130, 0], 5), ("out", 4, [130, 0]))
        self.assertEqual(process(self.given, [200, 0], 5), ("out", 7, [200, 0]))

    def test_values_of_keys(self):
        self.assertEqual(process(self.given, [0, 7], 2), ("drop", "control"))
        self.assertEqual(choices(self.given, [0, 7], 2), [(2, 0), (3, 1)])

    def test_choices(self):
        self.assertEqual(choices(self.given, [0, 0], 1), [(2, 0), (3, 0)])
        self.assertEqual(choices(self.given, [0, 0], 5), [(2, 0), (3, -1)])
        self.assertEqual(choices(self.given, [130, 0], 5), [(2, 1), (1, -1)])
        self.assertEqual(choices(self.given, [129, 0], 5), [(2, 1), (1, 0)])
        self.assertEqual(choices(self.given, [201, 0], 5), [(2, 2), (1, 0)])

    def test_choices_of_defaults(self):
        empty = configured(self.PROGRAM)
        self.assertEqual(choices(empty, [1, 1], 0), [(2, -1), (1, -1)])

    def test_choices_of_packets_that_are_dropped(self):
        self.assertEqual(choices(self.given, [1], 0), [])
        self.assertEqual(process(self.given, [1], 0), DROPPED)
        only = acting()
        self.assertEqual(choices(only, [1], 0), [(0, -1)])
        self.assertEqual(process(only, [1], 0), ("drop", "control"))
        empty = acting(("remove", "h"), SEND_PORT, headers=[header("h", 8)], states=[state("start", "h")])
        self.assertEqual(choices(empty, [1], 0), [(0, -1)])
        self.assertEqual(process(empty, [1], 0), ("drop", "size"))
        rejected = acting(SEND_PORT, states=[state("start", None, ("go", "reject"))])
        self.assertEqual(choices(rejected, [1], 0), [])

    def test_choices_without_tables(self):
        self.assertEqual(choices((make(), {}), [1], 0), [])

    def test_nothing_is_modified(self):
        packet = [200, 1, 2]
        kept = copy.deepcopy((self.given, packet))
        _, _, sent = process(self.given, packet, 1)
        sent.append(1)
        choices(self.given, packet, 1).append(1)
        self.assertEqual((self.given, packet), kept)
        program = acting(SEND_PORT)
        process(program, packet, 1)[2].append(1)
        self.assertEqual(packet, kept[1])


class ResultTest(unittest.TestCase):
    H = header("h", 8)
    I = header("i", 16)
    STATES = [state("start", "h", ("go", "s")), state("s", "i")]

    def test_order_of_emits(self):
        for emits, expected in (
            (["h", "i"], [1, 2, 3, 4]),
            (["i", "h"], [2, 3, 1, 4]),
            (["i"], [2, 3, 4]),
            (["h"], [1, 4]),
            ([], [4]),
        ):
            given = acting(SEND_PORT, headers=[self.H, self.I], states=self.STATES, emits=emits)
            self.assertEqual(process(given, [1, 2, 3, 4], 0), ("out", 0, expected))

    def test_headers_that_are_not_valid_are_not_emitted(self):
        given = acting(SEND_PORT, headers=[self.H, self.I], states=[state("start", "i")])
        self.assertEqual(process(given, [1, 2, 3], 0), ("out", 0, [1, 2, 3]))
        given = acting(("remove", "i"), SEND_PORT, headers=[self.H, self.I], states=[state("start", "i")])
        self.assertEqual(process(given, [1, 2, 3], 0), ("out", 0, [3]))

    def test_empty_result(self):
        given = acting(SEND_PORT, headers=[self.H, self.I], states=self.STATES, emits=[])
        self.assertEqual(process(given, [1, 2, 3], 0), ("drop", "size"))
        self.assertEqual(process(given, [1, 2, 3, 4], 0), ("out", 0, [4]))

    def test_sizes_of_the_result(self):
        given = acting(("add", "h"), SEND_PORT, headers=[self.H])
        payload = list(range(63))
        self.assertEqual(process(given, payload, 0), ("out", 0, [0, *payload]))
        self.assertEqual(process(given, [*payload, 63], 0), ("drop", "size"))
        given = acting(("add", "i"), SEND_PORT, headers=[self.I])
        self.assertEqual(process(given, payload, 0), ("drop", "size"))
        self.assertEqual(process(given, payload[:62], 0), ("out", 0, [0, 0, *payload[:62]]))

    def test_no_out_port_goes_before_the_size(self):
        given = acting(headers=[self.H, self.I], states=self.STATES, emits=[])
        self.assertEqual(process(given, [1, 2, 3], 0), ("drop", "control"))

    def test_examples(self):
        ops = [("set", ("h", "b"), ("+", field("h", "a"), num(9))), ("send", field("packet", "port"))]
        program = make(
            "x",
            [header("h", 4, 4)],
            states=[state("start", "h")],
            actions=[action("turn", [], ops)],
            tables=[table("t", [], ["turn"], ("turn", []), 1)],
            control=[("apply", "t")],
            emits=["h"],
        )
        self.assertEqual(process((program, {"t": []}), [0x9F, 7], 3), ("out", 3, [146, 7]))
        rejecting = make("x", states=[state("start", None, ("go", "reject"))])
        self.assertEqual(process((rejecting, {}), [1], 0), ("drop", "parse"))


if __name__ == "__main__":
    unittest.main()
