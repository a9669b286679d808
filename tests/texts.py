"""Texts of programs that the tests of pipes, journals, controllers, switches and scripts use."""

# A packet goes to the port in its first octet; 255 is dropped by the parser, 8 to 254 by the
# control, and an empty packet by its size. The table t is in unit 1, the table u in unit 3.
PLAIN = """program plain
header h { to: 8; }
parser { state start { extract h; select h.to { 255 -> reject; else -> accept; } } }
action out(p: 3) { send p; }
action same() { send h.to; }
action none() { }
action bare() { remove h; send 1; }
table t { key h.to exact; use out; use same; use none; use bare; default same(); size 4; }
table u { key h.to mask; use none; use out; default none(); size 2; }
control { apply t; if h.to < 100 { apply u; } }
emit h;
"""
# The same as PLAIN, with each packet to the port 7.
OTHER = PLAIN.replace("default same()", "default out(7)")

PARSE_ERROR = "program p\nparser }"
RULE_ERROR = "program p parser { } control { }"
LONG_CONTROL = "if packet.port == 0 { } " * 13
BUILD_ERROR = "program p parser { state start { go accept; } } control { " + LONG_CONTROL + "}"
