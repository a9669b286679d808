"""Tests of the controller (points 13.1 to 13.6)."""

import random
import unittest

from building import entry
from texts import PLAIN
from wholepackets.controller import Controller
from wholepackets.images import build
from wholepackets.journal import Journal
from wholepackets.ledger import Ledger
from wholepackets.pipes import Pipe

# The steps for one pipe with the index None that carries nothing: fourteen units, the turn, and
# the step to the next pipe.
WRITES = [None] * 14


class Bench:
    """A controller with all that it works on; a tick is a step and an advance of each pipe."""

    def __init__(self, many=1):
        self.journal = Journal(PLAIN)
        self.ledger = Ledger()
        self.pipes = [Pipe(build(self.journal.configuration(0)), 0) for _ in range(many)]
        self.controller = Controller(self.journal, self.ledger, self.pipes)
        self.label = 0

    def change(self, times=1):
        """Submit changes that are accepted."""
        for _ in range(times):
            version = self.journal.submit(("program", PLAIN))
        return version

    def steps(self, many):
        """Make steps and return what they return."""
        return [self.controller.step() for _ in range(many)]

    def tick(self, octets=None):
        """Do one tick, in which a packet of one octet enters each pipe if there is an octet for it."""
        turned = self.controller.step()
        for pipe, octet in zip(self.pipes, octets or [1] * len(self.pipes)):
            pipe.advance(self.label, None if octet is None else [octet], 0)
            self.label += 1
        return turned

    def ticks(self, many):
        """Do ticks with packets and return what the steps return."""
        return [self.tick() for _ in range(many)]

    def versions(self, slot, pipe=0):
        """Return the versions of the units of a slot; slot 1 must not be written without slot 0."""
        found = [version for version, _ in self.pipes[pipe].counts()]
        return found[14:] if slot else found[:14]

    def pipe_versions(self):
        """Return the versions of the pipes."""
        return [pipe.version for pipe in self.pipes]

    def everything(self):
        """Return all that a restart must not change."""
        pipes = [(pipe.version, pipe.active, pipe.counts(), pipe.labels()) for pipe in self.pipes]
        return (pipes, self.journal.latest(), self.ledger.total([]))

    def whole_total(self):
        """Return the total of the ledger and of all units."""
        return self.ledger.total([pair for pipe in self.pipes for pair in pipe.counts()])


class RoundTest(unittest.TestCase):
    def test_nothing_to_do(self):
        for many in (1, 2, 3, 4):
            bench = Bench(many)
            before = bench.everything()
            self.assertEqual(bench.steps(40), [None] * 40)
            self.assertEqual(bench.everything(), before)

    def test_what_step_returns(self):
        for many in (1, 2, 3, 4):
            bench = Bench(many)
            bench.steps(3)
            for _ in range(3):
                bench.change()
                expected = [None]
                for pipe in range(many):
                    expected += [*WRITES, pipe, None]
                self.assertEqual(bench.steps(len(expected)), expected)
                self.assertEqual(bench.steps(5), [None] * 5)
                self.assertEqual(bench.pipe_versions(), [bench.journal.latest()] * many)

    def test_one_unit_in_each_step(self):
        bench = Bench(2)
        version = bench.change(5)
        bench.steps(1)
        for pipe in (0, 1):
            self.assertEqual(bench.versions(1, pipe), [])
            for many in range(1, 15):
                bench.steps(1)
                self.assertEqual(bench.versions(1, pipe), [version] * many)
                self.assertEqual(bench.versions(0, pipe), [0] * 14)
                self.assertEqual((bench.pipes[pipe].version, bench.pipes[pipe].active), (0, 0))
            self.assertEqual(bench.steps(1), [pipe])
            self.assertEqual((bench.pipes[pipe].version, bench.pipes[pipe].active), (version, 1))
            self.assertEqual(bench.steps(1), [None])
        self.assertEqual(bench.versions(0), [0] * 14)

    def test_second_round_writes_the_other_slot(self):
        bench = Bench()
        bench.change()
        bench.steps(17)
        bench.change()
        bench.steps(1)
        for many in range(1, 15):
            bench.steps(1)
            self.assertEqual(bench.versions(0), [2] * many + [0] * (14 - many))
            self.assertEqual(bench.versions(1), [1] * 14)
        self.assertEqual(bench.steps(1), [0])
        self.assertEqual((bench.pipes[0].version, bench.pipes[0].active), (2, 0))

    def test_units_of_the_goal(self):
        bench = Bench(2)
        bench.journal.submit(("add", "t", entry([1], 0, "out", [6])))
        bench.steps(33)
        for pipe in bench.pipes:
            left = [pipe.advance(9, [1], 0), *[pipe.advance(None, None, None) for _ in range(14)]]
            self.assertEqual(left, [None] * 14 + [(9, ("out", 6, [1]))])

    def test_pipe_that_has_the_goal(self):
        bench = Bench(3)
        bench.pipes[0].turn(1)
        bench.pipes[2].turn(1)
        bench.change()
        before = [bench.everything()[0][pipe] for pipe in (0, 2)]
        self.assertEqual(bench.steps(20), [None, None, *WRITES, 1, None, None, None])
        self.assertEqual([bench.everything()[0][pipe] for pipe in (0, 2)], before)

    def test_pipes_that_all_have_the_last_version(self):
        bench = Bench(2)
        bench.change()
        for pipe in bench.pipes:
            pipe.turn(1)
        bench.steps(5)
        bench.change()
        self.assertEqual(bench.steps(16), [None, *WRITES, 0])

    def test_example(self):
        text = "program p parser { state start { go accept; } } control { }"
        journal = Journal(text)
        pipe = Pipe(build(journal.configuration(0)), 0)
        controller = Controller(journal, Ledger(), [pipe])
        self.assertEqual([controller.step(), journal.submit(("program", text))], [None, 1])
        self.assertEqual([controller.step() for _ in range(16)][15], 0)
        self.assertEqual([pipe.version, pipe.active], [1, 1])

    def test_list_of_pipes_is_changed_later(self):
        journal = Journal(PLAIN)
        pipes = [Pipe(build(journal.configuration(0)), 0) for _ in range(2)]
        kept = list(pipes)
        controller = Controller(journal, Ledger(), pipes)
        self.assertEqual(pipes, kept)
        pipes.reverse()
        pipes.pop()
        journal.submit(("program", PLAIN))
        self.assertEqual([controller.step() for _ in range(33)], [None, *WRITES, 0, None, *WRITES, 1, None])
        self.assertEqual([pipe.version for pipe in kept], [1, 1])


class UnderWayTest(unittest.TestCase):
    def test_version_that_is_accepted_under_way(self):
        # With two pipes a round has the steps 0 to 32; the step 32 ends it.
        for at in range(1, 33):
            bench = Bench(2)
            bench.change()
            turned = bench.steps(at)
            bench.change()
            turned += bench.steps(33 - at)
            self.assertEqual(turned, [None, *WRITES, 0, None, *WRITES, 1, None])
            self.assertEqual(bench.pipe_versions(), [1, 1])
            for pipe in (0, 1):
                self.assertEqual(bench.versions(1, pipe), [1] * 14)
            self.assertEqual(bench.steps(33), [None, *WRITES, 0, None, *WRITES, 1, None])
            self.assertEqual(bench.pipe_versions(), [2, 2])

    def test_versions_in_between_are_left_out(self):
        bench = Bench()
        bench.change()
        bench.steps(3)
        bench.change(4)
        self.assertEqual(bench.steps(14), [*[None] * 12, 0, None])
        self.assertEqual(bench.pipe_versions(), [1])
        self.assertEqual(bench.steps(16), [None, *WRITES, 0])
        self.assertEqual(bench.pipe_versions(), [5])
        self.assertEqual(bench.versions(0), [5] * 14)

    def test_several_versions_before_the_first_step(self):
        bench = Bench()
        bench.change(3)
        self.assertEqual(bench.steps(16), [None, *WRITES, 0])
        self.assertEqual((bench.pipe_versions(), bench.versions(1)), ([3], [3] * 14))


class WaitingTest(unittest.TestCase):
    def test_full_pipe(self):
        bench = Bench()
        bench.ticks(20)
        bench.change()
        # Packets of the active slot do not matter.
        self.assertEqual(bench.ticks(16), [None, *WRITES, 0])
        bench.change()
        # The old packets are inside for 14 ticks, that of the turn included.
        self.assertEqual(bench.ticks(13), [None] * 13)
        self.assertEqual((bench.versions(0), bench.pipes[0].carries()), ([0] * 14, False))
        for many in range(1, 15):
            self.assertIsNone(bench.tick())
            self.assertEqual(bench.versions(0), [2] * many + [0] * (14 - many))
        self.assertEqual(bench.tick(), 0)
        self.assertEqual(bench.pipe_versions(), [2])

    def test_single_packet(self):
        for last in range(1, 16):
            bench = Bench()
            bench.change()
            entering = [[None]] * 16
            entering[last] = [1]
            self.assertEqual([bench.tick(octets) for octets in entering], [None, *WRITES, 0])
            bench.change()
            # A packet that enters in the tick of the turn has the new slot already.
            waits = max(0, last - 3) if last < 15 else 0
            expected = [None, None, *[None] * waits, *WRITES, 0]
            self.assertEqual([bench.tick([None]) for _ in range(len(expected))], expected, msg=last)

    def test_packet_that_the_parser_dropped(self):
        bench = Bench()
        bench.change()
        entering = [[None]] * 14 + [[255], [None]]
        self.assertEqual([bench.tick(octets) for octets in entering], [None, *WRITES, 0])
        bench.change()
        self.assertEqual([bench.tick([None]) for _ in range(28)], [None] * 27 + [0])

    def test_one_of_several_pipes_carries(self):
        for busy in (0, 1, 2):
            bench = Bench(3)
            bench.change()
            bench.steps(49)
            self.assertEqual(bench.pipe_versions(), [1, 1, 1])
            octets = [1 if pipe == busy else None for pipe in range(3)]
            for _ in range(20):
                bench.tick(octets)
            # A turn makes the packets inside those of the slot that is not active.
            bench.pipes[busy].turn(1)
            bench.change()
            expected = [None]
            for pipe in range(3):
                # The busy pipe is next after `before` ticks, its packets are inside for 14 ticks.
                before = len(expected)
                waits = max(0, 14 - before) if pipe == busy else 0
                expected += [*[None] * waits, *WRITES, pipe, None]
            self.assertEqual([bench.tick(octets) for _ in range(len(expected))], expected)

    def test_pipes_that_do_not_advance(self):
        bench = Bench()
        bench.ticks(3)
        bench.pipes[0].turn(0)
        bench.change()
        before = bench.everything()
        self.assertEqual(bench.steps(50), [None] * 50)
        self.assertEqual(bench.everything(), before)
        for _ in range(14):
            bench.pipes[0].advance(None, None, None)
        self.assertEqual(bench.steps(15), [*WRITES, 0])

    def test_only_the_first_unit_waits(self):
        bench = Bench()
        bench.ticks(5)
        bench.change(2)
        bench.steps(4)
        self.assertEqual(bench.versions(1), [2] * 3)
        # The packets inside are now those of the slot that is not active.
        bench.pipes[0].turn(1)
        self.assertIs(bench.pipes[0].carries(), True)
        self.assertEqual(bench.steps(12), [None] * 11 + [0])
        self.assertEqual(bench.versions(0), [0] * 3 + [2] * 11)
        self.assertEqual((bench.versions(1), bench.pipe_versions()), ([2] * 3, [2]))


class RestartTest(unittest.TestCase):
    ROUND = [None, *WRITES, 0, None, *WRITES, 1, None]

    def test_restart_changes_nothing_else(self):
        for at in range(40):
            bench = Bench(2)
            bench.ticks(5)
            bench.change()
            bench.ticks(at)
            before = bench.everything()
            self.assertIsNone(bench.controller.restart())
            self.assertEqual(bench.everything(), before)

    def test_restart_in_each_phase(self):
        for at in range(len(self.ROUND) + 3):
            bench = Bench(2)
            bench.change()
            expected = [*self.ROUND, None, None, None][:at]
            self.assertEqual(bench.steps(at), expected)
            bench.controller.restart()
            if at <= 15:
                rest = self.ROUND
            elif at <= 31:
                # The first pipe was turned already.
                rest = [None, None, *self.ROUND[17:]]
            else:
                rest = [None] * 40
            self.assertEqual(bench.steps(len(rest)), rest, msg=at)
            self.assertEqual(bench.pipe_versions(), [1, 1])
            self.assertEqual(bench.steps(5), [None] * 5)

    def test_restart_begins_with_the_first_unit(self):
        for many in range(1, 15):
            bench = Bench()
            bench.change()
            bench.steps(1 + many)
            bench.change()
            bench.controller.restart()
            self.assertEqual(bench.versions(1), [1] * many)
            self.assertEqual(bench.steps(1), [None])
            self.assertEqual(bench.versions(1), [1] * many)
            for again in range(1, 15):
                self.assertEqual(bench.steps(1), [None])
                self.assertEqual(bench.versions(1), [2] * again + [1] * (many - again))
            self.assertEqual(bench.steps(1), [0])
            self.assertEqual(bench.pipe_versions(), [2])

    def test_new_goal_after_a_restart(self):
        bench = Bench(2)
        bench.change()
        bench.steps(16)
        self.assertEqual(bench.pipe_versions(), [1, 0])
        bench.change()
        bench.controller.restart()
        self.assertEqual(bench.steps(33), self.ROUND)
        self.assertEqual(bench.pipe_versions(), [2, 2])
        self.assertEqual((bench.versions(1), bench.versions(1, 1)), ([1] * 14, [2] * 14))

    def test_restart_while_waiting(self):
        bench = Bench()
        bench.ticks(14)
        bench.change()
        bench.ticks(16)
        bench.change()
        bench.ticks(5)
        bench.controller.restart()
        # The old packets are inside for 14 ticks; six of them have passed.
        self.assertEqual(bench.ticks(23), [None] * 8 + [*WRITES, 0])

    def test_many_restarts(self):
        bench = Bench()
        bench.change()
        for _ in range(30):
            bench.controller.restart()
            self.assertEqual(bench.steps(3), [None] * 3)
            self.assertEqual(bench.versions(1), [1, 1])
        bench.controller.restart()
        bench.controller.restart()
        self.assertEqual(bench.steps(16), [None, *WRITES, 0])


class LedgerTest(unittest.TestCase):
    def test_counts_are_collected_when_a_unit_is_written(self):
        bench = Bench()
        bench.ticks(5)
        for _ in range(14):
            bench.tick([None])
        bench.change(2)
        self.assertEqual(bench.steps(17), [None, *WRITES, 0, None])
        self.assertEqual(bench.ledger.total([]), {})
        bench.change()
        bench.steps(2)
        self.assertEqual(bench.ledger.total([]), {})
        bench.steps(1)
        self.assertEqual(bench.ledger.total([]), {(0, 0, -1): 5})
        bench.steps(1)
        self.assertEqual(bench.ledger.total([]), {(0, 0, -1): 5})
        bench.steps(1)
        self.assertEqual(bench.ledger.total([]), {(0, 0, -1): 5, (0, 1, -1): 5})
        bench.steps(20)
        self.assertEqual(bench.ledger.total([]), {(0, 0, -1): 5, (0, 1, -1): 5})

    def test_no_choice_is_lost_or_counted_twice(self):
        bench = Bench(2)
        source = random.Random(1)
        for at in range(600):
            before = bench.whole_total()
            if source.random() < 0.01:
                bench.controller.restart()
            if source.random() < 0.05:
                bench.change()
            bench.controller.step()
            self.assertEqual(bench.whole_total(), before)
            for pipe in bench.pipes:
                pipe.advance(at, [source.choice([1, 2, 200, 255])] if source.random() < 0.7 else None, 0)
        self.assertGreater(len({version for version, _, _ in bench.ledger.total([])}), 4)

    def test_two_pipes_add_up(self):
        bench = Bench(2)
        bench.ticks(30)
        bench.change()
        bench.ticks(70)
        bench.change()
        bench.ticks(70)
        total = bench.ledger.total([])
        # The version 0 went in until the turns in the ticks 45 and 61; the version 1 from then on.
        self.assertEqual(total[(0, 0, -1)], 45 + 61)
        self.assertEqual(total[(0, 1, -1)], 45 + 61)
        self.assertNotIn((1, 0, -1), total)


class BoundTest(unittest.TestCase):
    def test_steps_for_one_pipe(self):
        for many in (1, 2, 3, 4):
            bench = Bench(many)
            bench.ticks(20)
            bench.change()
            last = 0
            for at in range(1, 400):
                turned = bench.tick()
                if at % 3 == 0:
                    bench.change()
                if turned is not None:
                    # A round has one more step in front.
                    self.assertLessEqual(at - last, 31)
                    last = at
            self.assertGreater(last, 300)

    def test_packets_of_the_old_slot(self):
        bench = Bench(2)
        inside = [0, 0]
        for at in range(500):
            if at % 40 == 0:
                bench.change()
            bench.tick()
            for index, pipe in enumerate(bench.pipes):
                inside[index] = inside[index] + 1 if pipe.carries() else 0
                self.assertLessEqual(inside[index], 14)

    def test_no_unit_of_a_slot_is_written_while_its_packets_are_inside(self):
        source = random.Random(2)
        bench = Bench(3)
        for _ in range(900):
            if source.random() < 0.05:
                bench.change()
            if source.random() < 0.01:
                bench.controller.restart()
            carried = [pipe.carries() for pipe in bench.pipes]
            before = [pipe.counts() for pipe in bench.pipes]
            active = [pipe.active for pipe in bench.pipes]
            turned = bench.controller.step()
            for index, pipe in enumerate(bench.pipes):
                changed = pipe.counts() != before[index]
                self.assertFalse(carried[index] and (changed or turned == index))
                own = slice(0, 14) if active[index] == 0 else slice(14, 28)
                self.assertEqual(pipe.counts()[own], before[index][own])
            for pipe in bench.pipes:
                pipe.advance(0, [1] if source.random() < 0.8 else None, 0)

    def test_ticks_until_a_version_is_in_use(self):
        for many in (1, 2, 3, 4):
            for wait in range(0, 30 * many + 4, 3):
                bench = Bench(many)
                bench.ticks(15)
                bench.change()
                bench.ticks(30 * many + 2)
                bench.change()
                bench.ticks(wait)
                version = bench.change()
                bench.ticks(60 * many + 2)
                self.assertGreaterEqual(min(bench.pipe_versions()), version, msg=(many, wait))


if __name__ == "__main__":
    unittest.main()
