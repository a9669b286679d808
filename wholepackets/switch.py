"""The switch (points 15.1 and 15.2)."""

from wholepackets.controller import Controller
from wholepackets.errors import BuildError, ChangeError, RuleError, TextError
from wholepackets.images import build
from wholepackets.journal import Journal
from wholepackets.ledger import Ledger
from wholepackets.pipes import Pipe
from wholepackets.queues import Queue

PORTS = 8
INTAKE_GAP = 1


class Switch:
    """Pipes with an intake for each, an out queue for each port, and what controls them."""

    def __init__(self, text, *, pipes=1, intake=8, capacity=8, gap=1):
        self.tick = 0
        self.trace = []
        self.journal = Journal(text)
        self.ledger = Ledger()
        image = build(self.journal.configuration(0))
        # Each pipe with its intake, which holds triples (label, port, packet).
        self.lanes = [(Pipe(image, 0), Queue(intake, INTAKE_GAP)) for _ in range(pipes)]
        self.pipes = [pipe for pipe, _ in self.lanes]
        self.controller = Controller(self.journal, self.ledger, self.pipes)
        # The out queues of the ports, which hold pairs (label, packet).
        self.outs = [Queue(capacity, gap) for _ in range(PORTS)]
        self.next_label = 0

    def run(self, schedule):
        """Do one tick for each list of events in a list."""
        for events in schedule:
            self.advance(events)

    def advance(self, events):
        """Do one tick with a list of events."""
        for event in events:
            self.trace.append(self.meet(event))
        self.step_controller()
        for pipe, intake in self.lanes:
            self.advance_pipe(pipe, intake)
        for port, queue in enumerate(self.outs):
            self.give_packet(port, queue)
        self.tick += 1

    def meet(self, event):
        """Do what an event says, and return the event of the trace."""
        word = event[0]
        if word == "packet":
            return self.take_in(event[1], event[2])
        if word == "change":
            return self.make_change(event[1])
        self.controller.restart()
        return ("restarted", self.tick)

    def take_in(self, port, packet):
        """Put a packet into the intake of its pipe, and return the event of the trace."""
        _, intake = self.lanes[port % len(self.lanes)]
        label = self.next_label
        # The caller may change the list of the octets later.
        if not intake.put((label, port, list(packet))):
            return ("refused", self.tick, port)
        self.next_label += 1
        return ("in", self.tick, label, port)

    def make_change(self, change):
        """Submit a change, and return the event of the trace."""
        try:
            version = self.journal.submit(change)
        except ChangeError as error:
            return ("rejected", self.tick, error.reason)
        except TextError:
            return ("rejected", self.tick, "TextError")
        except RuleError:
            return ("rejected", self.tick, "RuleError")
        except BuildError:
            return ("rejected", self.tick, "BuildError")
        return ("accepted", self.tick, version)

    def step_controller(self):
        """Let the controller make its step."""
        turned = self.controller.step()
        if turned is not None:
            pipe, _ = self.lanes[turned]
            self.trace.append(("turned", self.tick, turned, pipe.version))

    def advance_pipe(self, pipe, intake):
        """Let a pipe advance with the first packet of its intake."""
        entering = intake.take(self.tick)
        if entering is None:
            entering = (None, None, None)
        label, port, packet = entering
        leaving = pipe.advance(label, packet, port)
        if leaving is not None:
            self.let_out(leaving)
        if label is not None:
            self.trace.append(("entered", self.tick, label, pipe.version))

    def let_out(self, leaving):
        """Put a packet that left its pipe into the out queue of its port, if it has one."""
        label, treatment = leaving
        if treatment[0] == "drop":
            self.trace.append(("dropped", self.tick, label, treatment[1]))
            return
        _, port, packet = treatment
        if not self.outs[port].put((label, packet)):
            self.trace.append(("lost", self.tick, label, port))

    def give_packet(self, port, queue):
        """Send the first packet of an out queue, if it can give one."""
        given = queue.take(self.tick)
        if given is not None:
            label, packet = given
            self.trace.append(("sent", self.tick, label, port, packet))

    def hits(self):
        """Return how often each choice was counted, by tuples (version, table, index)."""
        return self.ledger.total([pair for pipe, _ in self.lanes for pair in pipe.counts()])

    def inside(self):
        """Return the ascending list of the labels of the packets that did not leave yet."""
        labels = [label for queue in self.outs for label, _ in queue.waiting()]
        for pipe, intake in self.lanes:
            labels.extend(pipe.labels())
            labels.extend([label for label, _, _ in intake.waiting()])
        return sorted(labels)
