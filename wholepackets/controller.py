"""The controller that brings the pipes to the last version (points 13.1 to 13.5)."""

from wholepackets.images import build
from wholepackets.pipes import UNITS


class Controller:
    """Brings pipes to the last version of a journal, one after the other."""

    def __init__(self, journal, ledger, pipes):
        self.journal = journal
        self.ledger = ledger
        self.pipes = list(pipes)
        self.goal = None
        # The image of the goal.
        self.image = []
        # The index of the pipe and the number of the unit that are next.
        self.place = 0
        self.unit = 0

    def restart(self):
        """Forget the goal."""
        self.goal = None

    def step(self):
        """Do one tick; return the index of the pipe that was turned, or None."""
        if self.goal is None:
            self.seek_goal()
            return None
        pipe = self.pipes[self.place]
        if pipe.version == self.goal:
            self.leave_pipe()
            return None
        if self.unit == UNITS:
            pipe.turn(self.goal)
            self.unit = 0
            return self.place
        # A slot is written only when no packet needs its units any more.
        if self.unit > 0 or not pipe.carries():
            self.write_unit(pipe)
        return None

    def seek_goal(self):
        """Make the last version the goal, if a pipe does not have it."""
        last = self.journal.latest()
        if any([pipe.version != last for pipe in self.pipes]):
            self.goal = last
            self.image = build(self.journal.configuration(last))
            self.place = 0
            self.unit = 0

    def leave_pipe(self):
        """Go on to the next pipe, or give up the goal behind the last one."""
        self.place += 1
        if self.place == len(self.pipes):
            self.goal = None

    def write_unit(self, pipe):
        """Write the next unit of a pipe, and keep what it had counted."""
        version, counts = pipe.write(self.unit, self.image[self.unit], self.goal)
        self.ledger.collect(version, counts)
        self.unit += 1
