"""The meaning of a configuration: what becomes of a packet (points 5.1 to 5.7)."""

from wholepackets.bits import OCTET_WIDTH, compute, is_packet, join_octets, ones, split_octets
from wholepackets.entries import call_of, choose
from wholepackets.parsing import END_TARGETS
from wholepackets.parts import (
    PORT,
    actions_of,
    control_of,
    emits_of,
    fields_of,
    names_of,
    operands_of,
    part_named,
    plain_test,
    states_of,
    tables_of,
)
from wholepackets.paths import FIRST_STATE
from wholepackets.rules import width_of

GREATEST_PORT = 7


def process(configuration, packet, port):
    """Return the result for a packet that enters at a port."""
    run = Run(configuration, port)
    if not run.parse(packet):
        return ("drop", "parse")
    run.execute(control_of(run.program))
    return run.result()


def choices(configuration, packet, port):
    """Return the choices of a packet that enters at a port."""
    run = Run(configuration, port)
    if run.parse(packet):
        run.execute(control_of(run.program))
    return run.chosen


class Run:
    """What is known of a packet while a configuration treats it."""

    def __init__(self, configuration, port):
        program, entries = configuration
        self.program = program
        self.entries = entries
        self.port = port
        self.valid = []
        # A field that is not in it is 0.
        self.fields = {}
        self.payload = []
        self.out_port = None
        self.chosen = []

    def parse(self, packet):
        """Parse a packet, and tell if it is accepted."""
        self.payload = list(packet)
        target = FIRST_STATE
        while target not in END_TARGETS:
            _, _, header, way = part_named(states_of(self.program), target)
            if header is not None and not self.extract(header):
                return False
            target = self.target_of(way)
        return target == "accept"

    def extract(self, header):
        """Extract a header, and tell if the packet was long enough."""
        fields = fields_of(self.program, header)
        widths = [width for _, width in fields]
        # The headers of a valid program have whole octets.
        many = sum(widths) // OCTET_WIDTH
        if len(self.payload) < many:
            return False
        values = split_octets(self.payload[:many], widths)
        for (name, _), value in zip(fields, values):
            self.fields[(header, name)] = value
        self.payload = self.payload[many:]
        self.valid.append(header)
        return True

    def target_of(self, way):
        """Return the target at which the parsing continues."""
        if way[0] == "go":
            return way[1]
        _, field, rows, other = way
        value = self.value_of(field)
        for wanted, mask, target in rows:
            if mask is None:
                mask = ones(width_of(self.program, field))
            if value & mask == wanted:
                return target
        return other

    def value_of(self, field):
        """Return the value of a field."""
        if field == PORT:
            return self.port
        return self.fields.get(field, 0)

    def execute(self, statements):
        """Execute a list of statements."""
        for statement in statements:
            if statement[0] == "apply":
                self.apply(statement[1])
            elif self.holds(statement[1]):
                self.execute(statement[2])
            else:
                self.execute(statement[3])

    def holds(self, test):
        """Tell if a test holds."""
        inner, turned = plain_test(test)
        if inner[0] == "valid":
            return (inner[1] in self.valid) != turned
        sign, field, number = inner
        value = self.value_of(field)
        if sign == "==":
            return (value == number) != turned
        return (value < number) != turned

    def apply(self, name):
        """Apply the table with a name."""
        tables = tables_of(self.program)
        _, _, keys, _, _, _ = part_named(tables, name)
        values = [self.value_of(field) for field, _ in keys]
        entries = self.entries[name]
        index = choose(self.program, name, entries, values)
        self.chosen.append((names_of(tables).index(name), index))
        action, args = call_of(self.program, name, entries, index)
        _, _, params, operations = part_named(actions_of(self.program), action)
        named = dict(zip([param for param, _ in params], args))
        for operation in operations:
            self.operate(operation, named)

    def operate(self, operation, args):
        """Execute an operation of an action; `args` are the values of its parameters."""
        word = operation[0]
        if word == "set":
            self.assign(operation[1], self.expression_value(operation[2], args))
        elif word == "send":
            self.send(self.expression_value(operation[1], args))
        elif word == "drop":
            self.out_port = None
        elif word == "add":
            self.make_valid(operation[1])
        else:
            self.make_invalid(operation[1])

    def expression_value(self, expression, args):
        """Return the value of an expression."""
        values = [self.operand_value(operand, args) for operand in operands_of(expression)]
        if len(values) == 1:
            return values[0]
        return compute(expression[0], values[0], values[1])

    def operand_value(self, operand, args):
        """Return the value of an operand."""
        if operand[0] == "num":
            return operand[1]
        if operand[0] == "param":
            return args[operand[1]]
        return self.value_of((operand[1], operand[2]))

    def assign(self, field, value):
        """Assign a value to a field, unless its header is not valid."""
        if field[0] == "meta" or field[0] in self.valid:
            self.fields[field] = value & ones(width_of(self.program, field))

    def send(self, value):
        """Set the out port to a value, or to none if it is no port."""
        self.out_port = None
        if 0 <= value <= GREATEST_PORT:
            self.out_port = value

    def make_valid(self, header):
        """Make a header valid."""
        # The fields of a header that is not valid are 0 already.
        if header not in self.valid:
            self.valid.append(header)

    def make_invalid(self, header):
        """Make a header invalid, and its fields 0."""
        if header in self.valid:
            self.valid.remove(header)
            for name, _ in fields_of(self.program, header):
                self.fields[(header, name)] = 0

    def result(self):
        """Return the result behind the control."""
        if self.out_port is None:
            return ("drop", "control")
        packet = []
        for header in emits_of(self.program):
            if header in self.valid:
                packet.extend(self.header_octets(header))
        packet.extend(self.payload)
        if not is_packet(packet):
            return ("drop", "size")
        return ("out", self.out_port, packet)

    def header_octets(self, header):
        """Return the octets of a header."""
        fields = fields_of(self.program, header)
        values = [self.value_of((header, name)) for name, _ in fields]
        return join_octets(values, [width for _, width in fields])
