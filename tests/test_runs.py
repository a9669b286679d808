"""Tests of what holds of every run (point 0.6), and of whole runs against a model."""

import collections
import copy
import random
import unittest

from modelling import Model, RandomRun, count_choices, units_of_choices
from wholepackets.judging import judge
from wholepackets.meaning import process
from wholepackets.switch import Switch

SEEDS = 16
TICKS = 400


class Run:
    """A random run of a switch, and what its trace tells of its packets."""

    def __init__(self, seed):
        source = random.Random(seed)
        made = RandomRun(source, 4)
        self.sizes = made.sizes()
        self.switch = Switch(made.texts[0], **self.sizes)
        self.model = Model(made.texts[0], **self.sizes)
        # By tick, behind it: the hits, the packets inside and the versions of the pipes.
        self.looks = []
        self.packets = []
        for tick in range(TICKS):
            last = self.switch.journal.configuration(self.switch.journal.latest())
            events = made.events(last, tick % 100 < 70)
            given = copy.deepcopy(events)
            before = len(self.switch.trace)
            self.switch.advance(events)
            self.model.advance(given)
            self.packets += taken_in(events, self.switch.trace[before:])
            versions = [pipe.version for pipe in self.switch.pipes]
            self.looks.append((self.switch.hits(), self.switch.inside(), versions))
        journal = self.switch.journal
        self.configurations = [journal.configuration(version) for version in range(journal.latest() + 1)]
        self.ports = {event[2]: event[3] for event in self.of_kind("in")}
        self.entered = {event[2]: (event[1], event[3]) for event in self.of_kind("entered")}
        self.ends = {event[2]: event for event in self.of_kind("dropped", "lost", "sent")}

    def of_kind(self, *kinds):
        """Return the events of some kinds of the trace."""
        return [event for event in self.switch.trace if event[0] in kinds]


def taken_in(events, trace):
    """Return the packets of a tick that were taken in."""
    packets = [event[2] for event in events if event[0] == "packet"]
    answers = [event[0] for event in trace if event[0] in ("in", "refused")]
    return [packet for packet, answer in zip(packets, answers) if answer == "in"]


class RunsTest(unittest.TestCase):
    @classmethod
    def setUpClass(cls):
        cls.runs = [Run(seed) for seed in range(SEEDS)]

    def test_runs_tell_something(self):
        kinds = collections.Counter(event[0] for run in self.runs for event in run.switch.trace)
        kinds.update(event[-1] for run in self.runs for event in run.of_kind("dropped", "rejected"))
        words = "in refused accepted rejected restarted turned dropped lost entered sent parse control size "
        words += "table same full missing TextError RuleError BuildError"
        for kind in words.split():
            self.assertGreater(kinds[kind], 0, msg=kind)
        self.assertEqual({run.sizes["pipes"] for run in self.runs}, {1, 2, 3, 4})

    def test_model(self):
        for run in self.runs:
            self.assertEqual(run.switch.trace, run.model.trace)
            self.assertEqual(run.looks[-1][:2], (run.model.hits(), run.model.labels()))
            self.assertEqual(list(run.looks[-1][0]), list(run.model.hits()))
            self.assertEqual(run.configurations[-1], run.model.journal.configuration(run.model.journal.latest()))

    def test_every_packet_has_the_fate_of_one_version(self):
        for run in self.runs:
            self.assertEqual(list(run.ports), list(range(len(run.packets))))
            inside = run.looks[-1][1]
            for label, packet in enumerate(run.packets):
                self.assertEqual(label in inside, label not in run.ends)
                if label in run.ends:
                    _, version = run.entered[label]
                    result = process(run.configurations[version], packet, run.ports[label])
                    self.check_end(run.ends[label], result)

    def check_end(self, event, result):
        """Check that the end of a packet is its result."""
        if event[0] == "dropped":
            self.assertEqual(result, ("drop", event[3]))
        elif event[0] == "lost":
            self.assertEqual(result[:2], ("out", event[3]))
        else:
            self.assertEqual(result, ("out", event[3], event[4]))

    def test_packets_are_lost_only_at_full_queues(self):
        for run in self.runs:
            waiting = [0] * 8
            sends = collections.Counter((event[1], event[3]) for event in run.of_kind("sent"))
            leaving = {tick + 14: [] for tick, _ in run.entered.values()}
            for label, (tick, _) in run.entered.items():
                leaving[tick + 14].append(label)
            for tick in range(TICKS):
                for label in sorted(leaving.get(tick, []), key=lambda label: run.ports[label] % run.sizes["pipes"]):
                    _, version = run.entered[label]
                    result = process(run.configurations[version], run.packets[label], run.ports[label])
                    if result[0] == "out":
                        lost = run.ends.get(label, ("",))[0] == "lost"
                        self.assertEqual(lost, waiting[result[1]] == run.sizes["capacity"])
                        waiting[result[1]] += 0 if lost else 1
                for port in range(8):
                    waiting[port] -= sends[(tick, port)]
                    self.assertGreaterEqual(waiting[port], 0)

    def test_versions_of_a_port_never_decrease(self):
        for run in self.runs:
            newest = [0] * 8
            for label in sorted(run.entered):
                _, version = run.entered[label]
                self.assertGreaterEqual(version, newest[run.ports[label]])
                newest[run.ports[label]] = version

    def test_packets_leave_in_the_order_of_their_arrival(self):
        for run in self.runs:
            last = {}
            for _, _, label, port, _ in run.of_kind("sent"):
                ports = (run.ports[label], port)
                self.assertGreater(label, last.get(ports, -1))
                last[ports] = label

    def test_every_choice_is_counted_once(self):
        for run in self.runs:
            chosen = {}
            for label, (_, version) in run.entered.items():
                chosen[label] = units_of_choices(run.configurations[version], run.packets[label], run.ports[label])
            for tick in [*range(0, TICKS, 7), TICKS - 1]:
                entered = {label: item for label, item in run.entered.items() if item[0] <= tick}
                self.assertEqual(run.looks[tick][0], count_choices(entered, chosen, tick + 1))

    def test_versions_are_in_use_in_time(self):
        many = 0
        for run in self.runs:
            bound = 60 * run.sizes["pipes"] + 2
            restarts = [event[1] for event in run.of_kind("restarted")]
            for _, tick, version in run.of_kind("accepted"):
                # The tick of the change is the first one of the bound.
                end = tick + bound - 1
                if end < TICKS and not any(tick <= restart <= end for restart in restarts):
                    self.assertGreaterEqual(min(run.looks[end][2]), version)
                    many += 1
        self.assertGreater(many, 30)

    def test_turns_are_in_the_trace(self):
        for run in self.runs:
            turns = {(event[1], event[2]): event[3] for event in run.of_kind("turned")}
            versions = [0] * run.sizes["pipes"]
            for tick in range(TICKS):
                versions = [turns.get((tick, pipe), version) for pipe, version in enumerate(versions)]
                self.assertEqual(run.looks[tick][2], versions)

    def test_judge_finds_nothing(self):
        for run in self.runs:
            trace = run.switch.trace
            self.assertEqual(judge(run.configurations, run.packets, trace), [])
            for end in (1, len(trace) // 5, len(trace) // 2):
                self.assertEqual(judge(run.configurations, run.packets, trace[:end]), [])

    def test_judge_finds_what_was_changed(self):
        for run in self.runs:
            trace = run.switch.trace[:200]
            for index in range(0, len(trace), 9):
                event = trace[index]
                if event[0] == "sent":
                    self.check_found(run, index, (*event[:4], [*event[4][:-1], event[4][-1] ^ 1]), "fate")
                    self.check_found(run, index, (*event[:3], (event[3] + 1) % 8, event[4]), "fate")
                elif event[0] == "dropped":
                    self.check_found(run, index, (*event[:3], "nothing"), "fate")
                elif event[0] == "entered":
                    self.check_found(run, index, (*event[:3], len(run.configurations)), "version")
                    self.check_found(run, index, (*event[:2], len(run.packets), 0), "stray")

    def check_found(self, run, index, event, kind):
        """Check that the only finding about a trace up to another event is about this event."""
        trace = [*run.switch.trace[:index], event]
        self.assertEqual(judge(run.configurations, run.packets, trace), [(kind, index)])

    def test_same_run_again(self):
        for seed in (3, 8):
            again = Run(seed)
            self.assertEqual(again.switch.trace, self.runs[seed].switch.trace)
            self.assertEqual(again.looks, self.runs[seed].looks)


if __name__ == "__main__":
    unittest.main()
