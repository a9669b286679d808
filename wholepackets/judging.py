"""Judging a trace (points 16.1 and 16.2)."""

from wholepackets.meaning import process

END_KINDS = ("dropped", "lost", "sent")


def judge(configurations, packets, trace):
    """Return the list of the findings about the events of a trace."""
    reader = Judge(configurations, packets)
    findings = []
    for index, event in enumerate(trace):
        kind = reader.read(event)
        if kind is not None:
            findings.append((kind, index))
    return findings


class Judge:
    """What is known of packets and versions from the events that were read."""

    def __init__(self, configurations, packets):
        self.configurations = configurations
        self.packets = packets
        # By label: the port at which it was taken in, the version with which it entered, and
        # whether it was dropped, lost or sent.
        self.ports = {}
        self.versions = {}
        self.ended = {}
        # The greatest version there is, and by port the greatest one that entered.
        self.accepted = 0
        self.newest = {}
        # By pairs of an in port and an out port: the greatest label that was sent.
        self.latest_sent = {}

    def read(self, event):
        """Take note of an event, and return the kind of the finding about it, or None."""
        kind = event[0]
        if kind == "in":
            _, _, label, port = event
            self.ports[label] = port
        elif kind == "accepted":
            self.accepted = max(self.accepted, event[2])
        elif kind == "entered":
            return self.read_entry(event)
        elif kind in END_KINDS:
            return self.read_end(event)
        return None

    def read_entry(self, event):
        """Take note of an "entered", and return the kind of the finding about it, or None."""
        _, _, label, version = event
        if label not in self.ports or label in self.versions:
            return "stray"
        port = self.ports[label]
        newest = self.newest.get(port, version)
        self.versions[label] = version
        self.newest[port] = max(newest, version)
        if version < 0 or version > self.accepted or version < newest:
            return "version"
        return None

    def read_end(self, event):
        """Take note of the end of a packet, and return the kind of the finding, or None."""
        label = event[2]
        if label not in self.versions or label in self.ended:
            return "stray"
        self.ended[label] = True
        in_order = event[0] != "sent" or self.note_sent(label, event[3])
        if not self.agrees(event):
            return "fate"
        if not in_order:
            return "order"
        return None

    def note_sent(self, label, out_port):
        """Take note that a packet was sent, and tell if it was in the order of the labels."""
        ports = (self.ports[label], out_port)
        latest = self.latest_sent.get(ports, label)
        self.latest_sent[ports] = max(latest, label)
        return label >= latest

    def agrees(self, event):
        """Tell if the end of a packet is what the version with which it entered makes of it."""
        kind = event[0]
        label = event[2]
        version = self.versions[label]
        if not 0 <= version < len(self.configurations):
            return False
        configuration = self.configurations[version]
        result = process(configuration, self.packets[label], self.ports[label])
        if kind == "dropped":
            return result == ("drop", event[3])
        if result[0] == "drop":
            return False
        _, port, packet = result
        return port == event[3] and (kind == "lost" or packet == event[4])
