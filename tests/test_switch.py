"""Tests of the switch (points 15.1 and 15.2)."""

import copy
import unittest

from building import entry
from texts import BUILD_ERROR, OTHER, PARSE_ERROR, PLAIN, RULE_ERROR
from wholepackets.controller import Controller
from wholepackets.errors import BuildError, RuleError, TextError
from wholepackets.journal import Journal
from wholepackets.pipes import Pipe
from wholepackets.switch import Switch

PARSE = [255]
CONTROL = [8]
# With this text a packet of one octet is dropped by its size.
BARE = PLAIN.replace("default same()", "default bare()")
SAME_TEXT = ("change", ("program", PLAIN))


def packet(port, *octets):
    """Return the event of a packet."""
    return ("packet", port, list(octets))


def change(*parts):
    """Return the event of a change."""
    return ("change", parts)


def traced(schedule, text=PLAIN, **sizes):
    """Return the trace of a run."""
    switch = Switch(text, **sizes)
    switch.run(schedule)
    return switch.trace


def at_tick(trace, tick):
    """Return the events of a tick."""
    return [event for event in trace if event[1] == tick]


def of_kind(trace, *kinds):
    """Return the events of some kinds."""
    return [event for event in trace if event[0] in kinds]


class StartTest(unittest.TestCase):
    def test_fields(self):
        switch = Switch(PLAIN, pipes=3)
        self.assertEqual((switch.tick, switch.trace), (0, []))
        self.assertIsInstance(switch.journal, Journal)
        self.assertEqual(switch.journal.latest(), 0)
        self.assertIsInstance(switch.controller, Controller)
        self.assertIs(type(switch.pipes), list)
        self.assertEqual([(type(pipe), pipe.version, pipe.active) for pipe in switch.pipes], [(Pipe, 0, 0)] * 3)
        self.assertEqual((switch.inside(), switch.hits()), ([], {}))

    def test_number_of_pipes(self):
        self.assertEqual(len(Switch(PLAIN).pipes), 1)
        for many in (1, 2, 3, 4):
            self.assertEqual(len(Switch(PLAIN, pipes=many).pipes), many)

    def test_errors(self):
        with self.assertRaises(TextError) as caught:
            Switch(PARSE_ERROR)
        self.assertEqual(caught.exception.line, 2)
        with self.assertRaises(RuleError) as caught:
            Switch(RULE_ERROR, pipes=2)
        self.assertEqual(caught.exception.rule, "parser")
        with self.assertRaises(BuildError):
            Switch(BUILD_ERROR, intake=1, capacity=1, gap=1)

    def test_tick(self):
        switch = Switch(PLAIN)
        for tick in range(1, 20):
            self.assertIsNone(switch.advance([]))
            self.assertEqual(switch.tick, tick)
        self.assertIsNone(switch.run([[], [packet(0, 1)], []]))
        self.assertEqual(switch.tick, 22)
        switch.run([])
        self.assertEqual((switch.tick, switch.trace[0]), (22, ("in", 20, 0, 0)))

    def test_default_intake(self):
        trace = traced([[packet(0, 1)] * 10])
        self.assertEqual(trace[:8], [("in", 0, label, 0) for label in range(8)])
        self.assertEqual(trace[8:], [("refused", 0, 0)] * 2 + [("entered", 0, 0, 0)])

    def test_default_capacity(self):
        # Four packets for one port come in each tick, and one is sent.
        schedule = [[packet(port, 6) for port in range(4)]] * 5 + [[]] * 40
        trace = traced(schedule, pipes=4)
        lost = [(event[1], event[2]) for event in of_kind(trace, "lost")]
        self.assertEqual(lost, [(16, 10), (16, 11), (17, 13), (17, 14), (17, 15), (18, 17), (18, 18), (18, 19)])
        self.assertEqual([event[1] for event in of_kind(trace, "sent")], list(range(14, 26)))

    def test_example(self):
        text = (
            "program p parser { state start { go accept; } } action a() { send packet.port; } "
            "table t { use a; default a(); size 1; } control { apply t; }"
        )
        switch = Switch(text)
        switch.run([[("packet", 2, [9])]] + [[] for _ in range(14)])
        self.assertEqual(switch.trace, [("in", 0, 0, 2), ("entered", 0, 0, 0), ("sent", 14, 0, 2, [9])])
        self.assertEqual([switch.inside(), switch.hits()], [[], {(0, 0, -1): 1}])


class EventsTest(unittest.TestCase):
    def test_labels_and_refused_packets(self):
        schedule = [[packet(3, 1), packet(4, 1), packet(5, 1)], [packet(6, 1)], [], [packet(7, 1), packet(0, 1)]]
        trace = of_kind(traced(schedule, intake=2), "in", "refused")
        self.assertEqual(
            trace,
            [
                ("in", 0, 0, 3),
                ("in", 0, 1, 4),
                ("refused", 0, 5),
                ("in", 1, 2, 6),
                ("in", 3, 3, 7),
                ("in", 3, 4, 0),
            ],
        )

    def test_smallest_and_greatest_intake(self):
        for many in (1, 2, 16):
            trace = traced([[packet(2, 1)] * 20, [packet(2, 1)] * 3], intake=many)
            self.assertEqual(at_tick(trace, 0)[:many], [("in", 0, label, 2) for label in range(many)])
            self.assertEqual(at_tick(trace, 0)[many:], [("refused", 0, 2)] * (20 - many) + [("entered", 0, 0, 0)])
            self.assertEqual(
                at_tick(trace, 1), [("in", 1, many, 2), ("refused", 1, 2), ("refused", 1, 2), ("entered", 1, 1, 0)]
            )

    def test_each_pipe_has_an_intake(self):
        schedule = [[packet(port, 1) for port in range(8)]]
        for many in (1, 2, 3, 4):
            trace = of_kind(traced(schedule, pipes=many, intake=1), "in", "refused")
            first = [("in", 0, port, port) for port in range(many)]
            self.assertEqual(trace, first + [("refused", 0, port) for port in range(many, 8)])

    def test_pipe_of_each_port(self):
        for many in (1, 2, 3, 4):
            switch = Switch(PLAIN, pipes=many)
            switch.run([[packet(port, 1) for port in range(8)]] + [[]] * 7)
            found = [pipe.labels() for pipe in switch.pipes]
            self.assertEqual(found, [list(range(first, 8, many)) for first in range(many)])

    def test_changes(self):
        row = entry([1], 0, "none")
        schedule = [
            [change("add", "t", row), change("add", "t", row), change("remove", "t", [1], 0)],
            [change("remove", "t", [1], 0), change("program", OTHER)],
            [change("add", "v", row), change("add", "t", entry([1], 0, "nobody")), change("add", "t", row)],
            [change("batch", [("add", "u", entry([(k, 3)], 0, "none")) for k in range(3)])],
            [change("batch", [("add", "u", entry([(k, 3)], 0, "none")) for k in range(2)])],
            [change("program", text) for text in (PARSE_ERROR, RULE_ERROR, BUILD_ERROR, PLAIN)],
        ]
        self.assertEqual(
            of_kind(traced(schedule), "accepted", "rejected"),
            [
                ("accepted", 0, 1),
                ("rejected", 0, "same"),
                ("accepted", 0, 2),
                ("rejected", 1, "missing"),
                ("accepted", 1, 3),
                ("rejected", 2, "table"),
                ("rejected", 2, "entry"),
                ("accepted", 2, 4),
                ("rejected", 3, "full"),
                ("accepted", 4, 5),
                ("rejected", 5, "TextError"),
                ("rejected", 5, "RuleError"),
                ("rejected", 5, "BuildError"),
                ("accepted", 5, 6),
            ],
        )

    def test_changes_are_in_the_journal(self):
        switch = Switch(PLAIN)
        switch.advance([change("add", "t", entry([1], 0, "none")), change("add", "t", entry([1], 0, "none"))])
        self.assertEqual(switch.journal.latest(), 1)
        self.assertEqual(switch.journal.configuration(1)[1], {"t": [entry([1], 0, "none")], "u": []})

    def test_order_of_events(self):
        events = [packet(1, 1), SAME_TEXT, ("restart",), packet(2, 1), change("remove", "t", [], 0), ("restart",)]
        trace = traced([[], events, events[::-1]])
        kinds = ["in", "accepted", "restarted", "in", "rejected", "restarted"]
        self.assertEqual([event[0] for event in at_tick(trace, 1)], [*kinds, "entered"])
        self.assertEqual([event[0] for event in at_tick(trace, 2)], [*kinds[::-1], "entered"])
        self.assertEqual(of_kind(trace, "restarted"), [("restarted", 1)] * 2 + [("restarted", 2)] * 2)

    def test_restart(self):
        # The goal is given up: the turn comes fifteen ticks after the tick of the restart.
        for tick in (1, 2, 14, 15):
            schedule = [[SAME_TEXT], *[[] for _ in range(40)]]
            schedule[tick].append(("restart",))
            trace = traced(schedule)
            self.assertEqual(of_kind(trace, "turned"), [("turned", tick + 15, 0, 1)])
        schedule = [[SAME_TEXT], *[[] for _ in range(15)], [("restart",)], *[[] for _ in range(40)]]
        self.assertEqual(of_kind(traced(schedule), "turned"), [("turned", 15, 0, 1)])


class TurnTest(unittest.TestCase):
    def test_turns(self):
        for many in (1, 2, 3, 4):
            trace = traced([[SAME_TEXT]] + [[]] * 80, pipes=many)
            turned = [("turned", 15 + 16 * pipe, pipe, 1) for pipe in range(many)]
            self.assertEqual(trace, [("accepted", 0, 1), *turned])

    def test_change_in_the_tick_of_the_turn(self):
        schedule = [[SAME_TEXT]] + [[]] * 14 + [[SAME_TEXT]] + [[]] * 40
        trace = traced(schedule)
        self.assertEqual(
            trace, [("accepted", 0, 1), ("accepted", 15, 2), ("turned", 15, 0, 1), ("turned", 32, 0, 2)]
        )

    def test_packet_that_enters_in_the_tick_of_the_turn(self):
        schedule = [[change("program", OTHER), packet(0, 1)]] + [[packet(0, 1)]] * 16 + [[]] * 20
        trace = traced(schedule)
        entered = [(event[1], event[3]) for event in of_kind(trace, "entered")]
        self.assertEqual(entered, [(tick, 0 if tick < 15 else 1) for tick in range(17)])
        sent = [event[1:] for event in of_kind(trace, "sent")]
        self.assertEqual(sent, [(14 + label, label, 1 if label < 15 else 7, [1]) for label in range(17)])

    def test_waiting(self):
        schedule = [[SAME_TEXT, packet(0, 1)]] + [[packet(0, 1)]] * 15 + [[SAME_TEXT]] + [[]] * 60
        # The packet of the tick 14 is inside up to the tick 28.
        self.assertEqual(of_kind(traced(schedule), "turned"), [("turned", 15, 0, 1), ("turned", 43, 0, 2)])


class LeavingTest(unittest.TestCase):
    def test_reasons(self):
        for text, octets, reason in (
            (PLAIN, PARSE, "parse"),
            (PLAIN, CONTROL, "control"),
            (BARE, [3], "size"),
        ):
            trace = traced([[packet(4, *octets)]] + [[]] * 15, text)
            self.assertEqual(trace, [("in", 0, 0, 4), ("entered", 0, 0, 0), ("dropped", 14, 0, reason)])
        trace = traced([[packet(4, 3, 9)]] + [[]] * 15, BARE)
        self.assertEqual(trace[2:], [("sent", 14, 0, 1, [9])])

    def test_first_and_last_port(self):
        trace = traced([[packet(7, 0, 1)], [packet(0, 7)]] + [[]] * 14)
        self.assertEqual(of_kind(trace, "sent"), [("sent", 14, 0, 0, [0, 1]), ("sent", 15, 1, 7, [7])])

    def test_lost(self):
        schedule = [[packet(0, 5)] for _ in range(6)] + [[]] * 40
        trace = traced(schedule, capacity=1, gap=16)
        self.assertEqual(
            of_kind(trace, "sent", "lost"),
            [
                ("sent", 14, 0, 5, [5]),
                ("lost", 16, 2, 5),
                ("lost", 17, 3, 5),
                ("lost", 18, 4, 5),
                ("lost", 19, 5, 5),
                ("sent", 30, 1, 5, [5]),
            ],
        )

    def test_lost_at_one_port_only(self):
        schedule = [[packet(0, 5)], [packet(0, 5)], [packet(0, 5)], [packet(0, 6)]] + [[]] * 15
        trace = traced(schedule, capacity=1, gap=16)
        self.assertEqual(
            of_kind(trace, "sent", "lost"), [("sent", 14, 0, 5, [5]), ("lost", 16, 2, 5), ("sent", 17, 3, 6, [6])]
        )

    def test_capacities(self):
        for capacity in (1, 2, 16):
            schedule = [[packet(0, 5)] for _ in range(20)] + [[]] * 300
            trace = traced(schedule, capacity=capacity, gap=16)
            # The first packet is sent at once; the seventeenth comes when the second one is sent.
            lost = [event[2] for event in of_kind(trace, "lost")]
            expected = list(range(capacity + 1, 20))
            if 17 in expected:
                expected.remove(17)
            self.assertEqual(lost, expected)

    def test_gaps(self):
        for gap in (1, 2, 3, 16):
            schedule = [[packet(0, 5)] for _ in range(4)] + [[]] * 80
            trace = traced(schedule, gap=gap)
            sent = [(event[1], event[2]) for event in of_kind(trace, "sent")]
            self.assertEqual(sent, [(14 + gap * label, label) for label in range(4)])

    def test_gap_of_each_port(self):
        schedule = [[packet(0, 5)], [packet(0, 6)], [packet(0, 5)], [packet(0, 6)]] + [[]] * 40
        sent = [event[1:4] for event in of_kind(traced(schedule, gap=10), "sent")]
        self.assertEqual(sent, [(14, 0, 5), (15, 1, 6), (24, 2, 5), (25, 3, 6)])

    def test_order_of_ports(self):
        schedule = [[packet(0, 6), packet(1, 5), packet(2, 0), packet(3, 7)]] + [[]] * 15
        trace = traced(schedule, pipes=4)
        self.assertEqual([event[1:4] for event in of_kind(trace, "sent")], [(14, 2, 0), (14, 1, 5), (14, 0, 6), (14, 3, 7)])

    def test_several_pipes_in_a_tick(self):
        schedule = [[packet(3, *PARSE), packet(2, *CONTROL), packet(1, 1), packet(0, *PARSE)]]
        schedule += [[]] * 13 + [[packet(2, 1), packet(0, 1), packet(3, 1), packet(1, 1)]]
        trace = traced(schedule, pipes=4)
        self.assertEqual([event[2] for event in at_tick(trace, 0)], [0, 1, 2, 3, 3, 2, 1, 0])
        self.assertEqual(
            at_tick(trace, 14),
            [
                ("in", 14, 4, 2),
                ("in", 14, 5, 0),
                ("in", 14, 6, 3),
                ("in", 14, 7, 1),
                ("dropped", 14, 3, "parse"),
                ("entered", 14, 5, 0),
                ("entered", 14, 7, 0),
                ("dropped", 14, 1, "control"),
                ("entered", 14, 4, 0),
                ("dropped", 14, 0, "parse"),
                ("entered", 14, 6, 0),
                ("sent", 14, 2, 1, [1]),
            ],
        )

    def test_all_parts_of_a_tick(self):
        schedule = [[SAME_TEXT], [packet(0, *CONTROL), packet(1, 5), packet(2, 5), packet(3, 6)]] + [[]] * 13
        schedule += [[packet(1, 3), SAME_TEXT, packet(0, 4), change("program", "")], []]
        trace = traced(schedule, pipes=4, capacity=1, gap=16)
        self.assertEqual(
            at_tick(trace, 15),
            [
                ("in", 15, 4, 1),
                ("accepted", 15, 2),
                ("in", 15, 5, 0),
                ("rejected", 15, "TextError"),
                ("turned", 15, 0, 1),
                ("dropped", 15, 0, "control"),
                ("entered", 15, 5, 1),
                ("entered", 15, 4, 0),
                ("lost", 15, 2, 5),
                ("sent", 15, 1, 5, [5]),
                ("sent", 15, 3, 6, [6]),
            ],
        )
        self.assertEqual(at_tick(trace, 16), [])

    def test_one_packet_of_an_intake_in_a_tick(self):
        trace = traced([[packet(0, 1)] * 5] + [[]] * 20)
        self.assertEqual(of_kind(trace, "entered"), [("entered", tick, tick, 0) for tick in range(5)])
        self.assertEqual([event[1] for event in of_kind(trace, "sent")], [14, 15, 16, 17, 18])


class LookingTest(unittest.TestCase):
    SCHEDULE = [[packet(0, 5), packet(1, 5), packet(2, *PARSE), packet(3, 200)], [SAME_TEXT, packet(0, 1)]]
    SCHEDULE += [[packet(port, 6)] for port in range(8)] * 4 + [[]] * 20

    def test_hits(self):
        switch = Switch(PLAIN, pipes=2)
        self.assertEqual(switch.hits(), {})
        switch.advance([change("add", "t", entry([1], 0, "out", [6])), packet(0, 1), packet(1, 2), packet(2, 1)])
        self.assertEqual(switch.hits(), {})
        switch.advance([])
        self.assertEqual(switch.hits(), {(0, 0, -1): 2})
        switch.advance([])
        self.assertEqual(switch.hits(), {(0, 0, -1): 3})
        switch.advance([])
        self.assertEqual(switch.hits(), {(0, 0, -1): 3, (0, 1, -1): 2})
        switch.run([[]] * 30)
        self.assertEqual(switch.hits(), {(0, 0, -1): 3, (0, 1, -1): 3})
        switch.run([[packet(0, 1), packet(1, 3)]] + [[]] * 10)
        self.assertEqual(
            list(switch.hits().items()),
            [((0, 0, -1), 3), ((0, 1, -1), 3), ((1, 0, -1), 1), ((1, 0, 0), 1), ((1, 1, -1), 2)],
        )

    def test_hits_of_units_that_were_written_anew(self):
        switch = Switch(PLAIN, pipes=2)
        for many in range(1, 5):
            switch.run([[SAME_TEXT, packet(0, 1), packet(1, 200)]] + [[]] * 60)
            expected = {}
            for version in range(many):
                expected[(version, 0, -1)] = 2
                expected[(version, 1, -1)] = 1
            self.assertEqual(list(switch.hits().items()), list(expected.items()))

    def test_inside(self):
        switch = Switch(PLAIN, pipes=2, gap=16)
        switch.run([[packet(0, 5), packet(1, 5), packet(2, *PARSE)], [packet(3, 6)]])
        self.assertEqual(switch.inside(), [0, 1, 2, 3])
        switch.run([[]] * 12)
        self.assertEqual(switch.inside(), [0, 1, 2, 3])
        switch.advance([packet(4, 1), packet(6, 1)])
        # The label 0 was sent; 1 is in the out queue, 2 and 3 are in pipes, 5 in an intake.
        self.assertEqual(switch.inside(), [1, 2, 3, 4, 5])
        self.assertEqual([pipe.labels() for pipe in switch.pipes], [[2, 4], [3]])
        switch.advance([])
        self.assertEqual(switch.inside(), [1, 4, 5])
        switch.run([[]] * 15)
        self.assertEqual(switch.inside(), [5])
        switch.run([[]] * 16)
        self.assertEqual(switch.inside(), [])

    def test_looking_changes_nothing(self):
        quiet, watched = Switch(PLAIN, pipes=3, gap=2), Switch(PLAIN, pipes=3, gap=2)
        for events in self.SCHEDULE:
            watched.hits()[(9, 9, 9)] = 1
            watched.inside().append(99)
            watched.hits().clear()
            quiet.advance(events)
            watched.advance(events)
            self.assertEqual(watched.trace, quiet.trace)
            self.assertEqual((watched.hits(), watched.inside()), (quiet.hits(), quiet.inside()))
        self.assertEqual(watched.hits(), watched.hits())

    def test_switches_are_apart(self):
        first, second = Switch(PLAIN), Switch(PLAIN)
        first.run(self.SCHEDULE)
        self.assertEqual((second.tick, second.trace, second.inside(), second.hits()), (0, [], [], {}))


class LaterChangesTest(unittest.TestCase):
    def test_arguments_are_not_modified(self):
        schedule = [
            [packet(0, 5), packet(1, *PARSE), ("restart",)],
            [change("batch", [("add", "t", entry([1], 0, "out", [3])), ("remove", "t", [1], 0)])],
            [change("remove", "t", [1], 0), change("program", OTHER)],
        ]
        kept = copy.deepcopy(schedule)
        Switch(PLAIN).run(schedule)
        self.assertEqual(schedule, kept)

    def test_packets(self):
        switch = Switch(PLAIN, gap=16)
        octets = [[2, 9], [2, 8], [2, 7]]
        switch.advance([("packet", 0, row) for row in octets])
        for row in octets:
            row[0] = 3
            row.append(1)
        switch.run([[]] * 50)
        self.assertEqual(
            [event[4] for event in of_kind(switch.trace, "sent")], [[2, 9], [2, 8], [2, 7]]
        )

    def test_events_and_schedules(self):
        switch = Switch(PLAIN)
        events = [packet(0, 1)]
        schedule = [events, []]
        switch.run(schedule)
        events.append(packet(0, 2))
        schedule.append([packet(0, 3)])
        switch.run([[]] * 15)
        self.assertEqual([event[0] for event in switch.trace], ["in", "entered", "sent"])

    def test_changes(self):
        switch = Switch(PLAIN)
        row = entry([1], 0, "none")
        changes = [("add", "t", row)]
        keys = [1]
        switch.advance([("change", ("batch", changes)), ("change", ("remove", "t", keys, 0))])
        changes[0] = ("add", "t", entry([2], 0, "none"))
        changes.append(("add", "t", entry([3], 0, "none")))
        keys.append(4)
        switch.run([[]] * 20)
        self.assertEqual(switch.journal.configuration(1)[1], {"t": [row], "u": []})
        self.assertEqual(switch.journal.configuration(2)[1], {"t": [], "u": []})


if __name__ == "__main__":
    unittest.main()
