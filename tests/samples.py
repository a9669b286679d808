"""A program with a part of every kind, which several tests use."""

TEXT = """program whole
header eth {
  dst: 8;
  kind: 16;
}
header tag {
}
meta {
  m: 32;
  n: 1;
}
parser {
  state start {
    extract eth;
    select eth.kind {
      1 -> more;
      2 & 7 -> accept;
      4294967295 & 0 -> reject;
      else -> more;
    }
  }
  state more {
    go accept;
  }
  state last {
    extract tag;
    go reject;
  }
  state other {
    select packet.port {
      else -> reject;
    }
  }
}
action nothing() {
}
action every(x: 8, y2: 3) {
  eth.dst = 7;
  meta.m = x + y2;
  eth.kind = eth.dst - 1;
  eth.kind = meta.m & packet.port;
  eth.kind = 15 | x;
  packet.port = x ^ eth.dst;
  send packet.port;
  send x + 1;
  drop;
  add tag;
  remove eth;
}
table plain {
  default nothing();
  size 1;
}
table full {
  key eth.dst exact;
  key meta.m mask;
  key packet.port prefix;
  use every;
  use nothing;
  default every(4, 0);
  size 16;
}
control {
  apply plain;
  if valid tag {
    apply full;
    if not eth.dst == 3 {
    } else {
      apply full;
    }
  } else {
    if not not meta.m < 9 {
    }
  }
  if packet.port == 0 {
  }
}
emit eth, tag;
"""

HEADERS = [("header", "eth", [("dst", 8), ("kind", 16)]), ("header", "tag", [])]
META = [("m", 32), ("n", 1)]
ROWS = [(1, None, "more"), (2, 7, "accept"), (4294967295, 0, "reject")]
STATES = [
    ("state", "start", "eth", ("select", ("eth", "kind"), ROWS, "more")),
    ("state", "more", None, ("go", "accept")),
    ("state", "last", "tag", ("go", "reject")),
    ("state", "other", None, ("select", ("packet", "port"), [], "reject")),
]
OPERATIONS = [
    ("set", ("eth", "dst"), ("num", 7)),
    ("set", ("meta", "m"), ("+", ("param", "x"), ("param", "y2"))),
    ("set", ("eth", "kind"), ("-", ("field", "eth", "dst"), ("num", 1))),
    ("set", ("eth", "kind"), ("&", ("field", "meta", "m"), ("field", "packet", "port"))),
    ("set", ("eth", "kind"), ("|", ("num", 15), ("param", "x"))),
    ("set", ("packet", "port"), ("^", ("param", "x"), ("field", "eth", "dst"))),
    ("send", ("field", "packet", "port")),
    ("send", ("+", ("param", "x"), ("num", 1))),
    ("drop",),
    ("add", "tag"),
    ("remove", "eth"),
]
ACTIONS = [("action", "nothing", [], []), ("action", "every", [("x", 8), ("y2", 3)], OPERATIONS)]
KEYS = [(("eth", "dst"), "exact"), (("meta", "m"), "mask"), (("packet", "port"), "prefix")]
TABLES = [
    ("table", "plain", [], [], ("nothing", []), 1),
    ("table", "full", KEYS, ["every", "nothing"], ("every", [4, 0]), 16),
]
CONTROL = [
    ("apply", "plain"),
    (
        "if",
        ("valid", "tag"),
        [
            ("apply", "full"),
            ("if", ("not", ("==", ("eth", "dst"), 3)), [], [("apply", "full")]),
        ],
        [("if", ("not", ("not", ("<", ("meta", "m"), 9))), [], [])],
    ),
    ("if", ("==", ("packet", "port"), 0), [], []),
]
PROGRAM = ("program", "whole", HEADERS, META, STATES, ACTIONS, TABLES, CONTROL, ["eth", "tag"])

SMALLEST_TEXT = "program p\nparser {\n}\ncontrol {\n}\n"
SMALLEST = ("program", "p", [], [], [], [], [], [], [])
