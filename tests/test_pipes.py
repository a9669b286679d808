"""Tests of pipes (points 11.1 to 11.3, and 10.5)."""

import copy
import unittest

from building import entry
from texts import PLAIN
from wholepackets.images import build, run_image
from wholepackets.parsing import parse_program
from wholepackets.pipes import Pipe

PROGRAM = parse_program(PLAIN)
FIRST = build((PROGRAM, {"t": [entry([1], 0, "out", [6])], "u": [entry([(2, 2)], 0, "out", [5])]}))
SECOND = build((PROGRAM, {"t": [entry([4], 0, "out", [0]), entry([1], 0, "none")], "u": []}))
EMPTY = [{}] * 14


def advance(pipe, entering):
    """Advance once for each label, packet and port, or None, and return what left."""
    left = []
    for item in entering:
        left.append(pipe.advance(*(item or (None, None, None))))
    return left


def write_all(pipe, image, version):
    """Write all units and return what they had."""
    return [pipe.write(unit, contents, version) for unit, contents in enumerate(image)]


def counted(**units):
    """Return the counts of a slot: `u3={..}` are those of unit 3."""
    return [units.get("u" + str(unit), {}) for unit in range(14)]


class StartTest(unittest.TestCase):
    def test_fields(self):
        for version in (0, 5):
            pipe = Pipe(FIRST, version)
            self.assertEqual((pipe.version, pipe.active), (version, 0))
            self.assertEqual(pipe.labels(), [])
            self.assertIs(pipe.carries(), False)
            self.assertEqual(pipe.counts(), [(version, {})] * 14)

    def test_units_of_slot_1_were_never_written(self):
        pipe = Pipe(FIRST, 3)
        for unit in range(14):
            had = pipe.write(unit, SECOND[unit], 4)
            self.assertEqual(had, (None, {}))
            self.assertIs(type(had), tuple)

    def test_image_is_not_modified(self):
        image = list(FIRST)
        kept = copy.deepcopy(image)
        pipe = Pipe(image, 0)
        other = Pipe(image, 0)
        write_all(pipe, SECOND, 1)
        pipe.turn(1)
        write_all(pipe, SECOND, 2)
        advance(pipe, [(0, [1], 0)])
        self.assertEqual(image, kept)
        self.assertEqual(other.counts(), [(0, {})] * 14)
        self.assertEqual(advance(other, [(0, [1], 0)] + [None] * 14)[14], (0, ("out", 6, [1])))


class AdvanceTest(unittest.TestCase):
    PACKETS = [[1], [2, 9], [4], [200, 1], [255], [7] * 64, [8], [99], [0]]

    def check_run(self, entering):
        """Check that each packet leaves fourteen ticks after it entered."""
        left = advance(Pipe(FIRST, 0), [*entering, *[None] * 14])
        expected = [None] * 14
        for item in entering:
            if item is None:
                expected.append(None)
            else:
                label, packet, port = item
                expected.append((label, run_image(FIRST, packet, port)))
        self.assertEqual(left, expected)

    def packet(self, at):
        """Return one of the packets, with a label and a port."""
        return (100 + at, self.PACKETS[at % len(self.PACKETS)], at % 8)

    def test_packet_in_every_tick(self):
        self.check_run([self.packet(at) for at in range(50)])

    def test_packets_in_some_ticks(self):
        for step in (2, 3, 13, 14, 15):
            self.check_run([self.packet(at) if at % step == 0 else None for at in range(60)])
        self.check_run([None] * 5 + [self.packet(at) for at in range(3)] + [None, self.packet(4)])

    def test_no_packets(self):
        pipe = Pipe(FIRST, 0)
        self.assertEqual(advance(pipe, [None] * 40), [None] * 40)
        self.assertEqual((pipe.labels(), pipe.counts()), ([], [(0, {})] * 14))

    def test_results(self):
        left = advance(Pipe(FIRST, 0), [(at, packet, 3) for at, packet in enumerate(self.PACKETS)] + [None] * 14)
        self.assertEqual(
            left[14:],
            [
                (0, ("out", 6, [1])),
                (1, ("out", 5, [2, 9])),
                (2, ("out", 4, [4])),
                (3, ("drop", "control")),
                (4, ("drop", "parse")),
                (5, ("out", 5, [7] * 64)),
                (6, ("drop", "control")),
                (7, ("out", 5, [99])),
                (8, ("out", 0, [0])),
            ],
        )
        self.assertIs(type(left[14]), tuple)

    def test_labels_from_the_last_position(self):
        pipe = Pipe(FIRST, 0)
        advance(pipe, [(3, [1], 0), (9, [255], 0), None, (4, [2], 0)])
        self.assertEqual(pipe.labels(), [3, 9, 4])
        advance(pipe, [None] * 10)
        self.assertEqual(pipe.labels(), [3, 9, 4])
        self.assertEqual(advance(pipe, [(1, [1], 0)]), [(3, ("out", 6, [1]))])
        self.assertEqual(pipe.labels(), [9, 4, 1])
        advance(pipe, [None])
        self.assertEqual(pipe.labels(), [4, 1])

    def test_full_pipe(self):
        pipe = Pipe(FIRST, 0)
        advance(pipe, [(at, [1], 0) for at in range(20)])
        self.assertEqual(pipe.labels(), list(range(6, 20)))

    def test_lists_that_are_changed_later(self):
        pipe = Pipe(FIRST, 0)
        packet = [2, 9]
        pipe.advance(0, packet, 0)
        self.assertEqual(packet, [2, 9])
        packet[0] = 1
        packet.append(3)
        pipe.labels().append(7)
        self.assertEqual(pipe.labels(), [0])
        self.assertEqual(advance(pipe, [None] * 14)[13], (0, ("out", 5, [2, 9])))

    def test_example(self):
        program = parse_program("program x parser { state start { go accept; } } control { }")
        pipe = Pipe(build((program, {})), 0)
        self.assertEqual([pipe.advance(7, [1], 0), pipe.labels()], [None, [7]])
        self.assertEqual([pipe.advance(None, None, None) for _ in range(14)][13], (7, ("drop", "control")))
        self.assertEqual(pipe.write(3, ("stage", {}), 4), (None, {}))


class CountingTest(unittest.TestCase):
    def counts_by_tick(self, entering):
        """Return the counts of slot 0 after each tick."""
        pipe = Pipe(FIRST, 2)
        found = []
        for item in entering:
            advance(pipe, [item])
            self.assertEqual([version for version, _ in pipe.counts()], [2] * 14)
            found.append([counts for _, counts in pipe.counts()])
        return found

    def test_entries_and_defaults(self):
        for packet, first, third in (
            ([1], {(0, 0): 1}, {(1, -1): 1}),
            ([2], {(0, -1): 1}, {(1, 0): 1}),
            ([4], {(0, -1): 1}, {(1, -1): 1}),
            ([200], {(0, -1): 1}, {}),
        ):
            found = self.counts_by_tick([(0, packet, 0)] + [None] * 15)
            self.assertEqual(found[0], EMPTY)
            self.assertEqual(found[1:3], [counted(u1=first)] * 2)
            self.assertEqual(found[3:], [counted(u1=first, u3=third)] * 13)

    def test_dropped_packet(self):
        self.assertEqual(self.counts_by_tick([(0, [255], 0)] + [None] * 15), [EMPTY] * 16)
        found = self.counts_by_tick([(0, [255], 0), (1, [2], 0), None, None, None])
        self.assertEqual(found[1], EMPTY)
        self.assertEqual(found[2], counted(u1={(0, -1): 1}))
        self.assertEqual(found[4], counted(u1={(0, -1): 1}, u3={(1, 0): 1}))

    def test_several_packets(self):
        entering = [(0, [1], 0), (1, [2], 1), (2, [1], 2), None, (3, [3], 3), None, None, None]
        found = self.counts_by_tick(entering)
        self.assertEqual(found[1], counted(u1={(0, 0): 1}))
        self.assertEqual(found[2], counted(u1={(0, 0): 1, (0, -1): 1}))
        self.assertEqual(found[3], counted(u1={(0, 0): 2, (0, -1): 1}, u3={(1, -1): 1}))
        self.assertEqual(found[4], counted(u1={(0, 0): 2, (0, -1): 1}, u3={(1, -1): 1, (1, 0): 1}))
        self.assertEqual(found[5], counted(u1={(0, 0): 2, (0, -1): 2}, u3={(1, -1): 2, (1, 0): 1}))
        self.assertEqual(found[7], counted(u1={(0, 0): 2, (0, -1): 2}, u3={(1, -1): 2, (1, 0): 2}))

    def test_returned_counts_may_be_changed(self):
        pipe = Pipe(FIRST, 0)
        advance(pipe, [(0, [1], 0), None])
        found = pipe.counts()
        found[1][1][(0, 0)] = 50
        found[2][1][(7, 7)] = 1
        found.clear()
        self.assertEqual([counts for _, counts in pipe.counts()], counted(u1={(0, 0): 1}))
        advance(pipe, [(0, [1], 0), None])
        self.assertEqual([counts for _, counts in pipe.counts()], counted(u1={(0, 0): 2}, u3={(1, -1): 1}))


class WriteTest(unittest.TestCase):
    def test_first_and_second_time(self):
        pipe = Pipe(FIRST, 0)
        for unit in range(14):
            self.assertEqual(pipe.write(unit, SECOND[unit], 5), (None, {}))
            self.assertEqual(pipe.write(unit, FIRST[unit], 8), (5, {}))
            self.assertEqual(pipe.write(unit, SECOND[unit], 6), (8, {}))

    def test_one_unit_is_written(self):
        for unit in range(14):
            pipe = Pipe(FIRST, 0)
            pipe.write(unit, SECOND[unit], 5)
            self.assertEqual(pipe.counts(), [(0, {})] * 14 + [(5, {})])

    def test_order_of_the_counts(self):
        pipe = Pipe(FIRST, 0)
        for unit, version in ((9, 1), (2, 2), (13, 3), (0, 4)):
            pipe.write(unit, SECOND[unit], version)
        expected = [(0, {})] * 14 + [(4, {}), (2, {}), (1, {}), (3, {})]
        self.assertEqual(pipe.counts(), expected)
        pipe.turn(7)
        self.assertEqual(pipe.counts(), expected)
        pipe.write(5, FIRST[5], 6)
        self.assertEqual(pipe.counts(), [*expected[:5], (6, {}), *expected[6:]])

    def test_active_slot_is_not_touched(self):
        pipe = Pipe(FIRST, 0)
        advance(pipe, [(0, [1], 0), (1, [2], 0), None])
        before = pipe.counts()
        write_all(pipe, SECOND, 1)
        self.assertEqual((pipe.version, pipe.active, pipe.labels()), (0, 0, [0, 1]))
        self.assertEqual(pipe.counts(), before + [(1, {})] * 14)
        left = advance(pipe, [(2, [1], 0)] + [None] * 14)
        self.assertEqual(left[11:13], [(0, ("out", 6, [1])), (1, ("out", 5, [2]))])
        self.assertEqual(left[14], (2, ("out", 6, [1])))

    def test_counts_that_a_unit_had(self):
        pipe = Pipe(FIRST, 3)
        advance(pipe, [(0, [1], 0), (1, [2], 0), (2, [1], 0)] + [None] * 14)
        write_all(pipe, SECOND, 4)
        pipe.turn(4)
        had = write_all(pipe, FIRST, 5)
        self.assertEqual([version for version, _ in had], [3] * 14)
        self.assertEqual(
            [counts for _, counts in had], counted(u1={(0, 0): 2, (0, -1): 1}, u3={(1, -1): 2, (1, 0): 1})
        )
        self.assertEqual(pipe.counts(), [(5, {})] * 14 + [(4, {})] * 14)
        had[1][1][(0, 9)] = 1
        self.assertEqual(write_all(pipe, FIRST, 6), [(5, {})] * 14)

    def test_counting_goes_on_in_a_unit_that_was_written_anew(self):
        pipe = Pipe(FIRST, 0)
        write_all(pipe, SECOND, 1)
        pipe.turn(1)
        advance(pipe, [(0, [1], 0), (1, [4], 0)] + [None] * 14)
        found = [counts for _, counts in pipe.counts()]
        self.assertEqual(found, EMPTY + counted(u1={(0, 1): 1, (0, 0): 1}, u3={(1, -1): 2}))
        write_all(pipe, FIRST, 2)
        pipe.turn(2)
        advance(pipe, [(2, [1], 0), None])
        self.assertEqual(pipe.write(1, FIRST[1], 3), (1, {(0, 1): 1, (0, 0): 1}))
        self.assertEqual(pipe.counts()[1], (2, {(0, 0): 1}))
        self.assertEqual(pipe.counts()[14 + 1], (3, {}))


class TurnTest(unittest.TestCase):
    def test_version_and_active(self):
        pipe = Pipe(FIRST, 0)
        write_all(pipe, SECOND, 1)
        for version, active in ((1, 1), (7, 0), (9, 1)):
            pipe.turn(version)
            self.assertEqual((pipe.version, pipe.active), (version, active))

    def test_turn_changes_no_counts_and_no_packets(self):
        pipe = Pipe(FIRST, 0)
        write_all(pipe, SECOND, 1)
        advance(pipe, [(4, [1], 0), (5, [1], 0), None, None])
        before = (pipe.counts(), pipe.labels())
        pipe.turn(1)
        self.assertEqual((pipe.counts(), pipe.labels()), before)

    def test_packets_keep_their_slots(self):
        for at in range(15):
            pipe = Pipe(FIRST, 0)
            write_all(pipe, SECOND, 1)
            old = [(label, [1], 0) for label in range(at)]
            new = [(label, [4], 0) for label in range(at, 20)]
            left = advance(pipe, old)
            pipe.turn(1)
            left += advance(pipe, [*new, *[None] * 14])
            self.assertEqual(left[14:14 + at], [(label, ("out", 6, [1])) for label in range(at)])
            self.assertEqual(left[14 + at:], [(label, ("out", 0, [4])) for label in range(at, 20)])
            found = [counts for _, counts in pipe.counts()]
            first = counted(u1={(0, 0): at}, u3={(1, -1): at}) if at else EMPTY
            self.assertEqual(found, first + counted(u1={(0, 0): 20 - at}, u3={(1, -1): 20 - at}))

    def test_packets_keep_their_slots_over_two_turns(self):
        pipe = Pipe(FIRST, 0)
        write_all(pipe, SECOND, 1)
        left = advance(pipe, [(0, [1], 0)])
        pipe.turn(1)
        left += advance(pipe, [(1, [1], 0)])
        pipe.turn(2)
        left += advance(pipe, [(2, [1], 0)] + [None] * 14)
        self.assertEqual(
            left[14:], [(0, ("out", 6, [1])), (1, ("drop", "control")), (2, ("out", 6, [1]))]
        )

    def test_carries(self):
        pipe = Pipe(FIRST, 0)
        write_all(pipe, SECOND, 1)
        advance(pipe, [(at, [1], 0) for at in range(20)])
        self.assertIs(pipe.carries(), False)
        pipe.turn(1)
        self.assertIs(pipe.carries(), True)
        for at in range(13):
            advance(pipe, [(20 + at, [1], 0)])
            self.assertIs(pipe.carries(), True)
        advance(pipe, [(33, [1], 0)])
        self.assertIs(pipe.carries(), False)
        pipe.turn(2)
        self.assertIs(pipe.carries(), True)

    def test_carries_a_single_packet(self):
        for packet in ([1], [255]):
            pipe = Pipe(FIRST, 0)
            write_all(pipe, SECOND, 1)
            advance(pipe, [(0, packet, 0)])
            pipe.turn(1)
            for _ in range(14):
                self.assertIs(pipe.carries(), True)
                advance(pipe, [None])
            self.assertIs(pipe.carries(), False)
            self.assertEqual(pipe.labels(), [])

    def test_carries_after_a_turn_of_an_empty_pipe(self):
        pipe = Pipe(FIRST, 0)
        write_all(pipe, SECOND, 1)
        pipe.turn(1)
        self.assertIs(pipe.carries(), False)
        advance(pipe, [(0, [1], 0)])
        self.assertIs(pipe.carries(), False)
        pipe.turn(2)
        self.assertIs(pipe.carries(), True)
        pipe.turn(3)
        self.assertIs(pipe.carries(), False)


if __name__ == "__main__":
    unittest.main()
