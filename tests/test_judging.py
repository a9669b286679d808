"""Tests of judging a trace (points 16.1 and 16.2)."""

import copy
import unittest

from building import entry
from texts import OTHER, PLAIN
from wholepackets.journal import Journal
from wholepackets.judging import judge
from wholepackets.switch import Switch


def configurations(*changes):
    """Return the configurations of all versions behind some changes of PLAIN."""
    journal = Journal(PLAIN)
    for change in changes:
        journal.submit(change)
    return [journal.configuration(version) for version in range(journal.latest() + 1)]


# Version 0 sends a packet to the port in its first octet, the versions 1 and 3 to the port 7, and
# the version 2 too, but for packets that begin with 1: to the port 4.
ROWS = configurations(
    ("program", OTHER), ("add", "t", entry([1], 0, "out", [4])), ("remove", "t", [1], 0)
)
# All packets with the labels 0 to 7.
PACKETS = [[1], [1, 2], [1, 3], [255], [8], [1, 5], [2, 6], [1, 7]]
PORTS = [0, 0, 1, 0, 0, 1, 0, 2]
INS = [("in", 0, label, port) for label, port in enumerate(PORTS)]
MANY = len(INS)


def accepted(*versions):
    """Return the events of versions that are accepted."""
    return [("accepted", 0, version) for version in versions]


def entered(label, version=0, tick=1):
    """Return the event of a packet that enters."""
    return ("entered", tick, label, version)


def sent(label, port=1, packet=None, tick=15):
    """Return the event of a packet that is sent."""
    return ("sent", tick, label, port, PACKETS[label] if packet is None else packet)


class JudgeTest(unittest.TestCase):
    def found(self, *events, rows=ROWS):
        """Return the findings behind the taking in of all packets, counted from the first event."""
        findings = judge(rows, PACKETS, [*INS, *events])
        self.assertIs(type(findings), list)
        return [(kind, index - MANY) for kind, index in findings]

    def check(self, kinds, events):
        """Check the kinds of the findings of events, `-` for none."""
        expected = [(kind, index) for index, kind in enumerate(kinds.split()) if kind != "-"]
        self.assertEqual(self.found(*events), expected)
        self.assertEqual(len(kinds.split()), len(events))


class GoodTraceTest(JudgeTest):
    def test_empty(self):
        self.assertEqual(judge([], [], []), [])
        self.assertEqual(judge(ROWS, PACKETS, []), [])
        self.assertEqual(self.found(), [])

    def test_every_kind_of_event(self):
        self.check(
            "- - - - - - - - - - - - -",
            [
                ("refused", 0, 3),
                *accepted(1),
                ("rejected", 0, "same"),
                ("restarted", 1),
                entered(0),
                entered(2),
                entered(3),
                ("turned", 2, 0, 1),
                entered(4, 1),
                sent(0),
                ("lost", 15, 2, 1),
                ("dropped", 15, 3, "parse"),
                sent(4, 7),
            ],
        )

    def test_index_is_that_of_the_event(self):
        self.assertEqual(judge(ROWS, [[1]], [entered(0)]), [("stray", 0)])
        self.assertEqual(judge(ROWS, [[1]], [("refused", 0, 1), ("in", 0, 0, 0), entered(0, 5)]), [("version", 2)])

    def test_other_events_do_not_matter(self):
        events = [("turned", 2, 3, 77), ("rejected", 0, "TextError"), ("refused", 0, 0), ("restarted", 9)]
        self.check("- - - - - -", [*events, entered(0), sent(0)])

    def test_example(self):
        text = (
            "program p parser { state start { go accept; } } action a() { send packet.port; } "
            "table t { use a; default a(); size 1; } control { apply t; }"
        )
        rows = [Journal(text).configuration(0)]
        good = [("in", 0, 0, 2), ("entered", 0, 0, 0), ("sent", 14, 0, 2, [9])]
        self.assertEqual(judge(rows, [[9]], good), [])
        wrong = [("in", 0, 0, 2), ("entered", 0, 0, 1), ("sent", 14, 0, 3, [9])]
        self.assertEqual(judge(rows, [[9]], wrong), [("version", 1), ("fate", 2)])

    def test_arguments_are_not_modified(self):
        trace = [*INS, *accepted(1), entered(0), entered(1, 1), sent(1, 7), sent(0), sent(0), entered(9)]
        given = (ROWS, PACKETS, trace)
        kept = copy.deepcopy(given)
        judge(*given)
        self.assertEqual(given, kept)


class StrayTest(JudgeTest):
    def test_label_that_was_not_taken_in(self):
        for label in (8, 99, -1):
            for event in (
                entered(label),
                ("dropped", 15, label, "parse"),
                ("lost", 15, label, 1),
                ("sent", 15, label, 1, [1]),
            ):
                self.check("stray", [event])
                self.check("- stray - -", [entered(0), event, sent(0), entered(1)])

    def test_label_that_is_taken_in_later(self):
        events = [entered(0), ("in", 0, 0, 0), entered(0), ("sent", 15, 0, 1, [1])]
        self.assertEqual(judge(ROWS, [[1]], events), [("stray", 0)])

    def test_entered_twice(self):
        self.check("- stray - -", [entered(0), entered(0), sent(0), entered(1)])
        self.check("- - stray", [entered(0), sent(0), entered(0)])
        self.check("- stray stray", [entered(0), entered(0, 99), entered(0, -1)])

    def test_not_entered(self):
        self.check("stray - -", [sent(0), entered(0), sent(0)])
        self.check("stray - -", [("dropped", 1, 3, "parse"), entered(3), ("dropped", 15, 3, "parse")])
        self.check("stray - -", [("lost", 1, 0, 1), entered(0), ("lost", 15, 0, 1)])

    def test_ended_twice(self):
        ends = [("dropped", 15, 0, "parse"), ("lost", 15, 0, 1), sent(0)]
        firsts = ["fate", "-", "-"]
        for first, kind in zip(ends, firsts):
            for second in ends:
                self.check(f"- {kind} stray stray", [entered(0), first, second, second])

    def test_stray_has_no_effect_on_versions(self):
        self.check("- - stray - -", [*accepted(1, 2), entered(8, 2), entered(0), entered(1)])
        self.check("- - - stray -", [*accepted(1, 2), entered(0), entered(0, 2), entered(1)])
        self.check("- - stray -", [*accepted(1), entered(0), entered(0, 1), sent(0)])

    def test_stray_has_no_effect_on_ends(self):
        self.check("stray - - -", [sent(1), entered(0), sent(0), entered(1)])
        # A stray "sent" is not one that was already sent.
        self.check("- - - stray -", [entered(0), entered(1), ("lost", 15, 1, 1), sent(1), sent(0)])
        self.check("- stray - -", [entered(0), sent(1), sent(0), entered(1)])


class VersionTest(JudgeTest):
    def test_version_that_was_not_accepted(self):
        self.check("version", [entered(0, 1)])
        self.check("version", [entered(0, -1)])
        self.check("version", [entered(0, 3)])
        self.check("-", [entered(0, 0)])
        self.check("- - version -", [*accepted(1), entered(0, 1), entered(1, 2), entered(2, 0)])
        self.check("version -", [entered(0, 1), *accepted(1)])
        self.check("- version - -", [*accepted(1), entered(0, 2), *accepted(2), entered(2, 2)])

    def test_greatest_version_that_was_accepted(self):
        self.check("- - - -", [*accepted(1, 2), entered(0, 1), entered(2, 2)])
        self.check("- - -", [*accepted(3), entered(0, 2), entered(2, 3)])
        self.check("- - - version", [*accepted(3, 1), entered(0, 3), entered(2, 4)])
        self.check("- - -", [*accepted(3, 1), entered(7, 2)])

    def test_versions_of_a_port(self):
        self.check("- - - version", [*accepted(1, 2), entered(0, 2), entered(1, 1)])
        self.check("- - - version", [*accepted(1, 2), entered(0, 1), entered(1, 0)])
        self.check("- - - - -", [*accepted(1, 2), entered(0, 1), entered(1, 1), entered(3, 2)])
        # The packets 0 and 2 entered at different ports.
        self.check("- - - - - version", [*accepted(1, 2), entered(0, 2), entered(2, 0), entered(7, 1), entered(1, 1)])

    def test_all_earlier_ones_count(self):
        # Not only the last one before, and also one that is a finding.
        self.check(
            "- - - version version -",
            [*accepted(1, 2), entered(0, 2), entered(1, 0), entered(3, 1), entered(4, 2)],
        )
        self.check("- version version version -", [*accepted(1), entered(0, 5), entered(1, 1), entered(3, 2), entered(2)])
        self.check("version - -", [entered(0, -3), entered(1, 0), entered(3, 0)])

    def test_wrong_version_counts_for_the_fate(self):
        self.check("version -", [entered(0, 1), sent(0, 7)])
        self.check("version fate", [entered(0, 1), sent(0, 1)])


class FateTest(JudgeTest):
    def test_dropped(self):
        for label, reason in ((3, "parse"), (4, "control")):
            for other in ("parse", "control", "size", "other"):
                kind = "-" if other == reason else "fate"
                self.check("- " + kind, [entered(label), ("dropped", 15, label, other)])
        self.check("- fate", [entered(0), ("dropped", 15, 0, "control")])

    def test_dropped_by_its_size(self):
        rows = configurations(("add", "t", entry([1], 0, "bare")))[1:]
        self.assertEqual(self.found(entered(0), ("dropped", 1, 0, "size"), rows=rows), [])
        self.assertEqual(self.found(entered(0), ("dropped", 1, 0, "control"), rows=rows), [("fate", 1)])
        self.assertEqual(self.found(entered(1), ("sent", 1, 1, 1, [2]), rows=rows), [])

    def test_lost(self):
        for port in range(8):
            self.check("- -" if port == 1 else "- fate", [entered(0), ("lost", 15, 0, port)])
        for label in (3, 4):
            self.check("- fate", [entered(label), ("lost", 15, label, 1)])

    def test_sent(self):
        for port in range(8):
            self.check("- -" if port == 1 else "- fate", [entered(1), sent(1, port)])
        for packet in ([], [1], [1, 2, 3], [2, 1], [1, 3], [1, 0]):
            self.check("- fate", [entered(1), sent(1, 1, packet)])
        self.check("- -", [entered(1), sent(1, 1, [1, 2])])
        for label in (3, 4):
            self.check("- fate", [entered(label), sent(label, 1)])

    def test_version_of_the_packet(self):
        events = accepted(1, 2, 3)
        for version, port in ((0, 1), (1, 7), (2, 4), (3, 7)):
            for other in (1, 4, 7):
                kind = "-" if other == port else "fate"
                self.check("- - - - " + kind, [*events, entered(0, version), sent(0, other)])
                self.check("- - - - " + kind, [*events, entered(0, version), ("lost", 15, 0, other)])

    def test_version_with_which_it_entered(self):
        # Neither the newest version nor that of another packet.
        self.check("- - - - -", [entered(0), *accepted(1), entered(1, 1), sent(0), sent(1, 7)])

    def test_port_of_the_packet(self):
        text = (
            "program p parser { state start { go accept; } } action a() { send packet.port; } "
            "table t { use a; default a(); size 1; } control { apply t; }"
        )
        rows = [Journal(text).configuration(0)]
        for label, port in enumerate(PORTS):
            self.assertEqual(self.found(entered(label), sent(label, port), rows=rows), [])
            self.assertEqual(self.found(entered(label), sent(label, port + 1), rows=rows), [("fate", 1)])

    def test_no_such_configuration(self):
        for version in (-1, -4, 4, 5, 99):
            for label, end in ((0, sent(0)), (0, ("lost", 15, 0, 1)), (3, ("dropped", 15, 3, "parse"))):
                self.check("version fate", [entered(label, version), end])
        self.check("- - fate", [*accepted(9), entered(0, 4), sent(0, 7)])
        self.assertEqual(self.found(entered(0), sent(0), rows=[]), [("fate", 1)])

    def test_wrong_fate_counts(self):
        self.check("- fate stray", [entered(0), sent(0, 2), sent(0)])


class OrderTest(JudgeTest):
    def test_order(self):
        self.check("- - - -", [entered(0), entered(1), sent(0), sent(1)])
        self.check("- - - order", [entered(0), entered(1), sent(1), sent(0)])
        self.check("- - - order", [entered(1), entered(0), sent(1), sent(0)])

    def test_not_only_the_last_one(self):
        events = [entered(0), entered(1), ("in", 0, 8, 0), ("in", 0, 9, 0), entered(8), entered(9)]
        packets = [*PACKETS, [1], [1]]
        ends = [("sent", 15, label, 1, packets[label]) for label in (9, 0, 8, 1)]
        trace = [*INS, *events, *ends]
        first = MANY + len(events)
        self.assertEqual(judge(ROWS, packets, trace), [("order", first + at) for at in (1, 2, 3)])

    def test_other_in_port(self):
        # The packets 0 and 2 entered at different ports.
        self.check("- - - -", [entered(0), entered(2), sent(2), sent(0)])

    def test_other_out_port(self):
        self.check("- - - -", [entered(0), entered(6), sent(6, 2), sent(0, 1)])
        self.check("- - - - - -", [*accepted(1), entered(0), entered(1, 1), sent(1, 7), sent(0), entered(2)])

    def test_lost_and_dropped_do_not_matter(self):
        self.check("- - - -", [entered(0), entered(1), ("lost", 15, 1, 1), sent(0)])
        self.check("- - - -", [entered(0), entered(1), sent(1), ("lost", 15, 0, 1)])
        self.check("- - - -", [entered(1), entered(3), sent(1), ("dropped", 15, 3, "parse")])

    def test_fate_comes_before_order(self):
        self.check("- - - fate", [entered(0), entered(1), sent(1), sent(0, 1, [9])])

    def test_wrong_sent_counts_for_the_order(self):
        # The packet 1 is sent to the wrong port 4, and to the right one with wrong octets.
        self.check("- - - fate -", [entered(0), *accepted(1), entered(1, 1), sent(1, 4), sent(0)])
        self.check("- - fate order", [entered(0), entered(1), sent(1, 1, [3]), sent(0)])
        # A packet that was sent to the wrong port was sent to this port all the same.
        self.check("- - - fate order", [*accepted(1), entered(0), entered(1, 1), sent(1, 1), sent(0)])

    def test_findings_of_several_kinds(self):
        self.check(
            "stray - version version fate order stray fate",
            [
                sent(0),
                entered(0),
                entered(1, 7),
                entered(6, 2),
                sent(1, 1),
                sent(0, 1),
                sent(0, 1),
                sent(6, 1),
            ],
        )


class RealTraceTest(unittest.TestCase):
    def test_runs_and_their_beginnings(self):
        packets = [[at % 9, at] for at in range(60)]
        schedule = []
        for at in range(60):
            events = [("packet", at % 8, packets[at])]
            if at % 20 == 5:
                events.append(("change", ("program", OTHER if at == 5 else PLAIN)))
            if at == 30:
                events.append(("change", ("add", "t", entry([8], 0, "out", [2]))))
            schedule.append(events)
        schedule += [[]] * 100
        for sizes in ({}, {"pipes": 3, "gap": 3, "capacity": 2}, {"pipes": 4, "intake": 1}):
            switch = Switch(PLAIN, **sizes)
            switch.run(schedule)
            rows = [switch.journal.configuration(version) for version in range(switch.journal.latest() + 1)]
            self.assertEqual(len(rows), 5)
            for end in range(0, len(switch.trace) + 1, 7):
                self.assertEqual(judge(rows, packets, switch.trace[:end]), [])
            self.assertEqual(judge(rows, packets, switch.trace), [])


if __name__ == "__main__":
    unittest.main()
