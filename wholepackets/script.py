"""Scripts (points 17.1 to 17.4)."""

from wholepackets.commands import read_commands
from wholepackets.errors import BuildError, RuleError, TextError
from wholepackets.switch import Switch


def run_script(script):
    """Return the list of the output lines of a script, or raise CommandError."""
    session = Session()
    for command in read_commands(script):
        session.perform(command)
    return session.output


class Session:
    """The switch that the commands of a script work on, and what they have put out."""

    def __init__(self):
        # None while there is no switch.
        self.switch = None
        self.output = []
        # The events of the next tick.
        self.pending = []
        # How many events of the trace were shown.
        self.shown = 0

    def perform(self, command):
        """Perform a command."""
        word = command[0]
        if word == "start":
            self.start(command)
        elif self.switch is None:
            return
        elif word == "tick":
            self.perform_ticks(command[1])
        elif word == "trace":
            self.show_trace()
        elif word == "hits":
            self.show_hits()
        elif word == "inside":
            self.show_inside()
        else:
            self.pending.append(command)

    def start(self, command):
        """Make a new switch of a text, or none if the text has an error."""
        _, pipes, intake, capacity, gap, text = command
        self.switch = None
        self.pending = []
        self.shown = 0
        try:
            self.switch = Switch(text, pipes=pipes, intake=intake, capacity=capacity, gap=gap)
        except TextError:
            self.output.append("error TextError")
        except RuleError:
            self.output.append("error RuleError")
        except BuildError:
            self.output.append("error BuildError")

    def perform_ticks(self, many):
        """Perform some ticks, the first one with the events."""
        for _ in range(many):
            events = self.pending
            self.pending = []
            self.switch.advance(events)

    def show_trace(self):
        """Put out the events that were not shown yet."""
        for event in self.switch.trace[self.shown:]:
            self.output.append(" ".join([item_text(item) for item in event]))
        self.shown = len(self.switch.trace)

    def show_hits(self):
        """Put out how often each choice was counted."""
        for (version, table, index), many in self.switch.hits().items():
            self.output.append(f"{version} {table} {index} {many}")

    def show_inside(self):
        """Put out the labels of the packets that did not leave yet."""
        labels = [str(label) for label in self.switch.inside()]
        self.output.append(" ".join(["inside", *labels]))


def item_text(item):
    """Return an item of an event as it is put out."""
    if isinstance(item, list):
        return "".join([f"{octet:02x}" for octet in item])
    return str(item)
