"""Pipes (points 11.1 to 11.3)."""

from wholepackets.images import choice, enter_unit, pass_unit

UNITS = 14


class Unit:
    """A unit that was written: its contents, its version, and what it has counted."""

    def __init__(self, contents, version):
        self.contents = contents
        self.version = version
        self.counted = {}

    def treat(self, treatment):
        """Count the choice for a treatment, and return the treatment after this unit."""
        made = choice(self.contents, treatment)
        if made is not None:
            self.counted[made] = self.counted.get(made, 0) + 1
        return pass_unit(self.contents, treatment)

    def counts_now(self):
        """Return what the unit has counted up to now."""
        return {made: self.counted[made] for made in self.counted}


class Pipe:
    """Fourteen positions through which packets move, and two slots of fourteen units."""

    def __init__(self, image, version):
        self.version = version
        self.active = 0
        # None stands for a unit that was never written, and for a position without a packet.
        self.slots = [[Unit(contents, version) for contents in image], [None] * UNITS]
        # A packet is a triple (label, slot, treatment).
        self.positions = [None] * UNITS

    def write(self, unit, contents, version):
        """Write a unit of the slot that is not active; return its old version and counts."""
        slot = self.slots[1 - self.active]
        old = slot[unit]
        slot[unit] = Unit(contents, version)
        if old is None:
            return (None, {})
        return (old.version, old.counts_now())

    def turn(self, version):
        """Make the other slot the active one, and give the pipe a version."""
        self.active = 1 - self.active
        self.version = version

    def carries(self):
        """Tell if a packet with the slot that is not active is in the pipe."""
        return any([slot != self.active for _, slot, _ in self.carried()])

    def advance(self, label, packet, port):
        """Do one tick; return the label and the treatment of the packet that leaves, or None."""
        leaving = self.positions[UNITS - 1]
        moved = [self.entered(label, packet, port)]
        for at in range(1, UNITS):
            moved.append(self.passed(at, self.positions[at - 1]))
        self.positions = moved
        if leaving is None:
            return None
        left, _, treatment = leaving
        return (left, treatment)

    def entered(self, label, packet, port):
        """Return what is at position 0 when a packet entered, or None without a packet."""
        if packet is None:
            return None
        first = self.slots[self.active][0]
        return (label, self.active, enter_unit(first.contents, packet, port))

    def passed(self, at, place):
        """Return what is at a position when it moved there from the position `place` before."""
        if place is None:
            return None
        label, slot, treatment = place
        return (label, slot, self.slots[slot][at].treat(treatment))

    def carried(self):
        """Return the list of the packets in the pipe, from position 13 to position 0."""
        return [place for place in self.positions[::-1] if place is not None]

    def labels(self):
        """Return the list of the labels of the packets, from position 13 to position 0."""
        return [label for label, _, _ in self.carried()]

    def counts(self):
        """Return the list of the pairs of the version and the counts of all written units."""
        written = [unit for slot in self.slots for unit in slot if unit is not None]
        return [(unit.version, unit.counts_now()) for unit in written]
