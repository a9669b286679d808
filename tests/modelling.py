"""A model of the switch that knows nothing of images, units and ledgers, and random runs for it.

A packet has its whole fate as soon as it enters: what the meaning of the pipe's version says.
"""

from generating import Maker, make_configuration, make_packet
from texts import BUILD_ERROR, PARSE_ERROR, RULE_ERROR
from wholepackets.errors import BuildError, ChangeError, RuleError, TextError
from wholepackets.images import build
from wholepackets.journal import Journal
from wholepackets.meaning import choices, process
from wholepackets.nodes import compile_control, stages
from wholepackets.writing import write_program

LENGTH = 14


def units_of_choices(configuration, packet, port):
    """Return the pairs of the unit and the choice for all choices of a packet."""
    nodes = compile_control(configuration[0])
    levels = stages(nodes)
    units = {node[1]: 1 + level for node, level in zip(nodes, levels) if node[0] == "table"}
    return [(units[table], (table, index)) for table, index in choices(configuration, packet, port)]


class ModelPipe:
    """What is in a pipe and in its intake."""

    def __init__(self):
        self.version = 0
        self.turns = 0
        # Tuples (tick, label, number of turns before it) of the packets inside.
        self.inside = []
        self.intake = []

    def waits(self):
        """Tell if a packet that entered before the last turn is inside."""
        return any(turns % 2 != self.turns % 2 for _, _, turns in self.inside)


class Model:
    """A switch whose packets have their fates when they enter."""

    def __init__(self, text, pipes, intake, capacity, gap):
        self.journal = Journal(text)
        self.pipes = [ModelPipe() for _ in range(pipes)]
        self.intake, self.capacity, self.gap = intake, capacity, gap
        self.outs = [[] for _ in range(8)]
        self.free = [0] * 8
        self.tick = 0
        self.trace = []
        # By label: the packet and its port; the fate and the choices with their units.
        self.packets = []
        self.fates = {}
        self.chosen = {}
        self.entries = {}
        # The steps of the controller that are left for its goal.
        self.goal = None
        self.place, self.written = 0, 0

    def advance(self, events):
        """Do one tick."""
        for event in events:
            self.meet(event)
        self.control()
        for pipe in self.pipes:
            self.move(pipe)
        for port, queue in enumerate(self.outs):
            if queue and self.tick >= self.free[port]:
                self.free[port] = self.tick + self.gap
                label = queue.pop(0)
                self.trace.append(("sent", self.tick, label, port, self.fates[label][2]))
        self.tick += 1

    def meet(self, event):
        """Do what an event says."""
        if event[0] == "restart":
            self.goal = None
            self.trace.append(("restarted", self.tick))
        elif event[0] == "change":
            try:
                version = self.journal.submit(event[1])
                self.trace.append(("accepted", self.tick, version))
            except ChangeError as error:
                self.trace.append(("rejected", self.tick, error.reason))
            except (TextError, RuleError, BuildError) as error:
                self.trace.append(("rejected", self.tick, type(error).__name__))
        else:
            _, port, packet = event
            queue = self.pipes[port % len(self.pipes)].intake
            if len(queue) == self.intake:
                self.trace.append(("refused", self.tick, port))
            else:
                self.trace.append(("in", self.tick, len(self.packets), port))
                queue.append(len(self.packets))
                self.packets.append((list(packet), port))

    def control(self):
        """Do a step of the controller."""
        last = self.journal.latest()
        if self.goal is None:
            if any(pipe.version != last for pipe in self.pipes):
                self.goal, self.place, self.written = last, 0, 0
            return
        pipe = self.pipes[self.place]
        if pipe.version == self.goal:
            self.place += 1
            if self.place == len(self.pipes):
                self.goal = None
        elif self.written == 0 and pipe.waits():
            return
        elif self.written < LENGTH:
            self.written += 1
        else:
            self.written = 0
            pipe.version = self.goal
            pipe.turns += 1
            self.trace.append(("turned", self.tick, self.place, self.goal))

    def move(self, pipe):
        """Advance a pipe."""
        if pipe.inside and pipe.inside[0][0] == self.tick - LENGTH:
            _, label, _ = pipe.inside.pop(0)
            fate = self.fates[label]
            if fate[0] == "drop":
                self.trace.append(("dropped", self.tick, label, fate[1]))
            elif len(self.outs[fate[1]]) == self.capacity:
                self.trace.append(("lost", self.tick, label, fate[1]))
            else:
                self.outs[fate[1]].append(label)
        if pipe.intake:
            label = pipe.intake.pop(0)
            configuration = self.journal.configuration(pipe.version)
            self.fates[label] = process(configuration, *self.packets[label])
            self.chosen[label] = units_of_choices(configuration, *self.packets[label])
            self.entries[label] = (self.tick, pipe.version)
            pipe.inside.append((self.tick, label, pipe.turns))
            self.trace.append(("entered", self.tick, label, pipe.version))

    def hits(self):
        """Return how often each choice was made in a unit that its packet has passed."""
        return count_choices(self.entries, self.chosen, self.tick)

    def labels(self):
        """Return the ascending list of the labels of the packets that did not leave yet."""
        found = [label for queue in self.outs for label in queue]
        for pipe in self.pipes:
            found += pipe.intake + [label for _, label, _ in pipe.inside]
        return sorted(found)


def count_choices(entries, chosen, ticks):
    """Return the counts of the choices that were made when a number of ticks was performed."""
    found = {}
    for label, (tick, version) in entries.items():
        for unit, (table, index) in chosen[label]:
            if tick + unit < ticks:
                found[(version, table, index)] = found.get((version, table, index), 0) + 1
    return {key: found[key] for key in sorted(found)}


class RandomRun:
    """A random source of texts and events; the same seed gives the same ones."""

    def __init__(self, source, many):
        self.source = source
        self.maker = Maker(source)
        self.texts = []
        while len(self.texts) < many:
            configuration = make_configuration(source)
            try:
                build(configuration)
            except BuildError:
                continue
            self.texts.append(write_program(configuration[0]))

    def sizes(self):
        """Return the arguments of a switch."""
        rows = [(1, 8, 8, 1), (2, 2, 2, 3), (3, 3, 16, 1), (4, 1, 1, 16), (4, 16, 4, 2), (2, 5, 1, 1)]
        names = ("pipes", "intake", "capacity", "gap")
        return dict(zip(names, self.source.choice(rows)))

    def change(self, configuration):
        """Return a change of a configuration, which may be wrong."""
        kind = self.source.choice(["program", "add", "add", "add", "remove", "batch"])
        if kind == "program":
            wrong = [PARSE_ERROR, RULE_ERROR, BUILD_ERROR]
            return ("program", self.source.choice(wrong if self.source.random() < 0.2 else self.texts))
        if kind == "batch":
            return ("batch", [self.entry_change(configuration) for _ in range(self.source.randint(1, 4))])
        return self.entry_change(configuration)

    def entry_change(self, configuration):
        """Return a change "add" or "remove"."""
        program, entries = configuration
        made = self.maker.entries(program)
        rows = [(name, row) for name in made for row in made[name]] or [("t0", ("entry", [], 0, "a0", []))]
        small = [part[1] for part in program[6] if part[5] < 4]
        if self.source.random() < 0.5:
            # Small tables are full sometimes.
            rows = [(name, row) for name, row in rows if name in small] or rows
        name, row = self.source.choice(rows)
        if self.source.random() < 0.3:
            old = [(table, item) for table in entries for item in entries[table]]
            name, row = self.source.choice(old or rows)
            return ("remove", name, row[1], row[2])
        if self.source.random() < 0.1:
            name = "nobody"
        return ("add", name, row)

    def events(self, configuration, busy):
        """Return the events of a tick."""
        found = []
        for _ in range(self.source.choice([0, 1, 1, 2, 4, 9]) if busy else 0):
            found.append(("packet", self.source.randint(0, 7), make_packet(self.source)))
        if self.source.random() < 0.04:
            found.append(("change", self.change(configuration)))
        if self.source.random() < 0.004:
            found.append(("restart",))
        self.source.shuffle(found)
        return found
