"""Valid configurations and packets that are made by a source of random numbers with a fixed seed."""

from building import action, entry, field, header, make, num, param, select, state, table
from wholepackets.entries import is_entry
from wholepackets.rules import width_of

PORT = ("packet", "port")
SIGNS = "+-&|^"


class Maker:
    """Makes the parts of one configuration."""

    def __init__(self, source):
        self.source = source
        self.headers = [self.make_header("h" + str(at)) for at in range(source.randint(1, 6))]
        self.meta = [("m" + str(at), source.randint(1, 32)) for at in range(source.randint(0, 8))]
        self.sizes = make(headers=self.headers, meta=self.meta)
        self.names = [part[1] for part in self.headers]
        self.fields = [(part[1], name) for part in self.headers for name, _ in part[2]]
        self.fields += [("meta", name) for name, _ in self.meta]

    def value(self, width):
        """Return a value of a width; small ones and the greatest one come often."""
        top = 2 ** width - 1
        return self.source.choice([0, 1 & top, 2 & top, top, self.source.randint(0, top)])

    def any_field(self):
        """Return a field, or the port."""
        return self.source.choice([*self.fields, PORT])

    def make_header(self, name):
        """Return a header."""
        while True:
            widths = [self.source.choice([1, 3, 4, 5, 8, 12, 16, 32]) for _ in range(self.source.randint(1, 8))]
            if sum(widths) % 8 == 0 and sum(widths) <= 128:
                return header(name, *widths)

    def states(self):
        """Return the states; state k leads to later ones, and headers are extracted in ascending order."""
        many = self.source.randint(1, 8)
        names = ["start", *["s" + str(at) for at in range(1, many)]]
        states = []
        for at, name in enumerate(names):
            extracts = None
            if at < len(self.names) and self.source.random() < 0.8:
                extracts = self.names[at]
            targets = [*names[at + 1:at + 3], "accept", "accept", *(["reject"] if at else [])]
            way = ("go", self.source.choice(targets))
            owned = [PORT] + [pair for pair in self.fields if pair[0] == extracts]
            if self.source.random() < 0.6:
                way = self.make_select(self.source.choice(owned), targets)
            states.append(state(name, extracts, way))
        self.source.shuffle(states)
        return states

    def make_select(self, pair, targets):
        """Return a select by a field."""
        rows = []
        width = width_of(self.sizes, pair)
        for _ in range(self.source.randint(0, 8)):
            mask = self.source.choice([None, self.value(width)])
            value = self.value(width)
            if mask is not None:
                value &= mask
            rows.append((value, mask, self.source.choice(targets)))
        return select(pair, rows, self.source.choice(targets))

    def operand(self, params):
        """Return an operand."""
        kinds = [num(self.source.choice([0, 1, 2, 5, 7, 8, 255, 4294967295])), field(*self.any_field())]
        return self.source.choice(kinds + [param(name) for name, _ in params])

    def expression(self, params):
        """Return an expression."""
        first, second = self.operand(params), self.operand(params)
        return self.source.choice([first, (self.source.choice(SIGNS), first, second)])

    def operation(self, params):
        """Return an operation."""
        name = self.source.choice(self.names)
        return self.source.choice(
            [
                ("set", self.source.choice(self.fields), self.expression(params)),
                ("set", self.source.choice(self.fields), self.expression(params)),
                ("send", self.expression(params)),
                ("send", ("&", self.operand(params), num(7))),
                ("drop",),
                ("add", name),
                ("remove", name),
            ]
        )

    def actions(self):
        """Return the actions."""
        actions = []
        for at in range(self.source.randint(1, 8)):
            params = [(name, self.source.randint(1, 32)) for name in "wxyz"[: self.source.randint(0, 4)]]
            ops = [self.operation(params) for _ in range(self.source.randint(0, 8))]
            actions.append(action("a" + str(at), params, ops))
        return actions

    def call(self, actions):
        """Return an action with arguments."""
        _, name, params, _ = self.source.choice(actions)
        return (name, [self.value(width) for _, width in params])

    def tables(self, actions):
        """Return the tables."""
        tables = []
        for at in range(self.source.randint(0, 8)):
            fields = self.source.sample([*self.fields, PORT], min(self.source.randint(0, 4), len(self.fields)))
            keys = [[pair, self.source.choice(["exact", "mask"])] for pair in fields]
            if keys and self.source.random() < 0.6:
                self.source.choice(keys)[1] = "prefix"
            used = self.source.sample(actions, self.source.randint(1, len(actions)))
            size = self.source.randint(1, 16)
            names = [part[1] for part in used]
            tables.append(table("t" + str(at), [tuple(key) for key in keys], names, self.call(used), size))
        return tables

    def item(self, width, kind):
        """Return an item of an entry."""
        value = self.value(width)
        if kind == "exact":
            return value
        if kind == "mask":
            mask = self.source.choice([0, 1, self.value(width)])
            return (value & mask, mask)
        length = self.source.choice([0, 1, 2, width, self.source.randint(0, width)])
        length = min(length, width)
        return (value >> (width - length) << (width - length), length)

    def entries(self, program):
        """Return the entries of all tables of a program."""
        rows = {}
        for _, name, keys, uses, _, size in program[6]:
            used = [part for part in program[5] if part[1] in uses]
            rows[name] = []
            for _ in range(self.source.randint(0, size)):
                items = [self.item(width_of(program, pair), kind) for pair, kind in keys]
                called, args = self.call(used)
                row = entry(items, self.source.choice([0, 1, 1, 255]), called, args)
                assert is_entry(program, name, row)
                rows[name].append(row)
        return rows

    def test(self):
        """Return the test of an `if`."""
        if self.source.random() < 0.3:
            found = ("valid", self.source.choice(self.names))
        else:
            pair = self.any_field()
            found = (self.source.choice(["==", "<"]), pair, self.value(width_of(self.sizes, pair)))
        for _ in range(self.source.randint(0, 2)):
            found = ("not", found)
        return found

    def statements(self, names, depth):
        """Return statements that apply each of some tables."""
        found = []
        while names:
            many = self.source.randint(1, len(names))
            if depth == 3 or self.source.random() < 0.5:
                found.append(("apply", names[0]))
                names = names[1:]
            else:
                cut = self.source.randint(0, many)
                then = self.statements(names[:cut], depth + 1)
                found.append(("if", self.test(), then, self.statements(names[cut:many], depth + 1)))
                names = names[many:]
        if self.source.random() < 0.1:
            found.append(("if", self.test(), [], []))
        return found


def make_configuration(source):
    """Return a valid configuration."""
    maker = Maker(source)
    actions = maker.actions()
    tables = maker.tables(actions)
    program = make(
        headers=maker.headers,
        meta=maker.meta,
        states=maker.states(),
        actions=actions,
        tables=tables,
        control=maker.statements([part[1] for part in tables], 0),
        emits=source.sample(maker.names, source.randint(0, len(maker.names))),
    )
    return (program, maker.entries(program))


def make_packet(source):
    """Return a packet; small octets and long packets come often."""
    many = source.choice([1, 2, 8, 40, 63, 64, source.randint(1, 64)])
    return [source.choice([0, 1, 2, 255, source.randint(0, 255)]) for _ in range(many)]
