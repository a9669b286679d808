"""Tests of scripts without wrong lines (points 17.1 to 17.3)."""

import unittest

from texts import BUILD_ERROR, OTHER, PARSE_ERROR, PLAIN, RULE_ERROR
from wholepackets.script import run_script

START = "start 1 8 8 1\n" + PLAIN + ".\n"
# What changes the version, and enough ticks for one pipe to turn.
TURN = "tick 16"

# A table for each kind of key, and one with all of them and one with none.
KEYS = """program keys
header h { a: 8; b: 32; }
parser { state start { extract h; go accept; } }
action a() { }
action b(p: 8, q: 32, r: 1) { }
table n { use a; use b; default a(); size 16; }
table e { key h.b exact; use a; use b; default a(); size 16; }
table m { key h.b mask; use a; default a(); size 16; }
table f { key h.b prefix; use a; default a(); size 16; }
table all { key h.a exact; key h.b mask; key packet.port prefix; use a; use b; default a(); size 16; }
control { }
"""


def run(*lines):
    """Return the output of the commands behind a `start` of PLAIN."""
    return run_script(START + "\n".join(lines))


def trace_of(*lines):
    """Return the trace behind a `start` of PLAIN and these commands."""
    return run(*lines, "trace")


def changes(*lines, text=KEYS):
    """Return what becomes of changes that are made in one tick behind a `start` of a text."""
    output = run_script("start 1 1 1 1\n" + text + ".\n" + "\n".join(lines) + "\ntick 1\ntrace")
    return [" ".join(line.split(" ")[2:]) for line in output]


class ExampleTest(unittest.TestCase):
    TEXT = (
        "start 1 8 8 1\nprogram p parser { state start { go accept; } } action a() { send packet.port; }\n"
        "table t { use a; default a(); size 1; } control { apply t; }\n.\n"
    )

    def test_run(self):
        self.assertEqual(
            run_script(self.TEXT + "packet 2 0aff\ntick 15\ntrace\nhits\ninside"),
            ["in 0 0 2", "entered 0 0 0", "sent 14 0 2 0aff", "0 0 -1 1", "inside"],
        )

    def test_error(self):
        self.assertEqual(run_script("start 1 8 8 1\nprogram\n.\ntick 3\ntrace"), ["error TextError"])


class LinesTest(unittest.TestCase):
    def test_empty_scripts(self):
        for script in ("", "\n", "   ", "# x", "\n\n  \n# a\n  # b 1 2\n#\n#tick 9999"):
            self.assertEqual(run_script(script), [])

    def test_output_is_a_list(self):
        self.assertIs(type(run_script("")), list)

    def test_spaces(self):
        plain = run("packet 2 05", "add t 3 out 4 6", "tick 15", "trace", "inside", "hits")
        self.assertEqual(len(plain), 7)
        spaced = run_script(
            "   start   1  8 8    1   \n" + PLAIN + ".\n"
            "  packet   2   05  \n add  t 3  out  4 6 \n   tick    15\n trace  \n inside\n   hits "
        )
        self.assertEqual(spaced, plain)

    def test_comments_and_empty_lines(self):
        script = "# one\n\n" + START + "   # two\n\npacket 2 05\n#tick 3\n   \ntick 15\n# tick\ntrace\n\n"
        self.assertEqual(run_script(script), ["in 0 0 2", "entered 0 0 0", "sent 14 0 5 05"])

    def test_comments_in_a_text(self):
        text = "# a\n\n  " + PLAIN.replace("\n", " # x\n") + "   \n#.\n# end"
        output = run_script("start 1 8 8 1\n" + text + "\n.\npacket 2 05\ntick 15\ntrace")
        self.assertEqual(output, ["in 0 0 2", "entered 0 0 0", "sent 14 0 5 05"])

    def test_end_of_a_text(self):
        # A line with a `.` and a space, or two of them, belongs to the text.
        for line in (" .", ". ", "..", " . "):
            self.assertEqual(run_script("start 1 1 1 1\n" + PLAIN + line + "\n.\n"), ["error TextError"])
        inside = PLAIN.replace("h.to exact", "h\n .\nto exact").replace("h.to mask", "h\n. \nto mask")
        output = run_script("start 1 1 1 1\n" + inside + ".\npacket 2 05\ntick 15\ntrace")
        self.assertEqual(output, ["in 0 0 2", "entered 0 0 0", "sent 14 0 5 05"])

    def test_commands_in_a_text_are_no_commands(self):
        text = PLAIN + "#\ntick 3\ntrace\n"
        self.assertEqual(run_script("start 1 1 1 1\n" + text + ".\ntrace"), ["error TextError"])


class StartTest(unittest.TestCase):
    def start(self, sizes, *lines):
        """Return the output behind a `start` with these numbers."""
        return run_script("start " + sizes + "\n" + PLAIN + ".\n" + "\n".join(lines))

    def test_pipes(self):
        for many in (1, 2, 3, 4):
            output = self.start(f"{many} 1 8 1", *[f"packet {port} 01" for port in range(5)], "tick 1", "trace")
            taken = [f"in 0 {port} {port}" for port in range(many)]
            self.assertEqual(output[:5], taken + [f"refused 0 {port}" for port in range(many, 5)])

    def test_intake(self):
        for many in (1, 2, 16):
            output = self.start(f"1 {many} 8 1", *["packet 0 01"] * 20, "tick 1", "trace")
            self.assertEqual([line.split()[0] for line in output], ["in"] * many + ["refused"] * (20 - many) + ["entered"])

    def test_capacity(self):
        # The first packet is sent at once, the second one sixteen ticks later.
        for many, first in ((1, "lost 16 2 1"), (2, "lost 17 3 1"), (16, "lost 32 18 1")):
            output = self.start(f"1 16 {many} 16", *["packet 0 01", "tick 1"] * 20, "tick 20", "trace")
            self.assertEqual([line for line in output if line.startswith("lost")][0], first)

    def test_gap(self):
        for gap in (1, 2, 16):
            output = self.start(f"1 8 8 {gap}", *["packet 0 01"] * 3, "tick 60", "trace")
            sent = [line.split()[1] for line in output if line.startswith("sent")]
            self.assertEqual(sent, ["14", str(14 + gap), str(14 + 2 * gap)])

    def test_errors(self):
        for text, kind in (
            (PARSE_ERROR, "TextError"),
            (RULE_ERROR, "RuleError"),
            (BUILD_ERROR, "BuildError"),
            ("", "TextError"),
            ("@", "TextError"),
        ):
            start = "start 1 8 8 1\n" + text + "\n.\n"
            after = "packet 0 01\ntick 20\ntrace\nhits\ninside\nrestart\nadd t 0 none - 1\nremove t 0 1\n"
            after += "program\n" + PLAIN + ".\n"
            self.assertEqual(run_script(start), ["error " + kind])
            self.assertEqual(run_script(start + after), ["error " + kind])
            before = START + "packet 0 05\ntick 15\ninside\n"
            self.assertEqual(run_script(before + start + after), ["inside", "error " + kind])
            # A later `start` makes a switch again.
            self.assertEqual(
                run_script(before + start + after + START + "packet 0 07\ntick 1\ntrace\ninside"),
                ["inside", "error " + kind, "in 0 0 0", "entered 0 0 0", "inside 0"],
            )

    def test_text_without_lines(self):
        self.assertEqual(run_script("start 1 8 8 1\n."), ["error TextError"])

    def test_no_switch(self):
        lines = ["packet 0 01", "tick 20", "trace", "hits", "inside", "restart", "add t 0 none - 1", "remove t 0 1"]
        lines += ["program", PARSE_ERROR, "."]
        self.assertEqual(run_script("\n".join(lines)), [])
        # What stands before a `start` has no effect on its switch.
        self.assertEqual(run_script("\n".join(lines) + "\n" + START + "tick 20\ntrace\nhits\ninside"), ["inside"])

    def test_second_start(self):
        lines = ["packet 0 01", "tick 15", "trace", "packet 0 02", "restart", "add t 0 none - 1"]
        first = ["in 0 0 0", "entered 0 0 0", "sent 14 0 1 01"]
        output = run_script(START + "\n".join(lines) + "\n" + START + "tick 3\ntrace\nhits\ninside")
        self.assertEqual(output, [*first, "inside"])
        output = run_script((START + "\n".join(lines[:3]) + "\n") * 2)
        self.assertEqual(output, first * 2)

    def test_each_switch_has_its_own_trace(self):
        output = run_script(START + "restart\ntick 1\nrestart\ntick 1\ntrace\n" + START + "restart\ntick 1\ntrace")
        self.assertEqual(output, ["restarted 0", "restarted 1", "restarted 0"])


class ChangesTest(unittest.TestCase):
    def test_program(self):
        output = trace_of("program", OTHER + ".", "tick 16", "packet 0 01", "tick 15")
        self.assertEqual(output[:2], ["accepted 0 1", "turned 15 0 1"])
        self.assertEqual(output[-1], "sent 30 0 7 01")

    def test_program_without_lines(self):
        self.assertEqual(trace_of("program", ".", "tick 1"), ["rejected 0 TextError"])

    def test_errors_of_programs(self):
        texts = [PARSE_ERROR, RULE_ERROR, BUILD_ERROR]
        lines = [line for text in texts for line in ("program", text, ".")]
        self.assertEqual(
            trace_of(*lines, "tick 1"), ["rejected 0 TextError", "rejected 0 RuleError", "rejected 0 BuildError"]
        )

    def test_add_and_remove(self):
        lines = ["add t 0 out 6 1", "add t 0 out 5 1", "remove t 0 1", "remove t 0 1", "add t 255 out 6 1", "add v 0 a -"]
        self.assertEqual(
            trace_of(*lines, "tick 1"),
            [
                "accepted 0 1",
                "rejected 0 same",
                "accepted 0 2",
                "rejected 0 missing",
                "accepted 0 3",
                "rejected 0 table",
            ],
        )
        output = trace_of(*lines, "tick 16", "packet 0 01", "tick 15")
        self.assertEqual(output[-2:], ["entered 16 0 3", "sent 30 0 6 01"])

    def test_any_words(self):
        for word in ("@", "if", "#", "9", "a.b", "-", "{", "1/2", "x" * 40):
            self.assertEqual(changes(f"add {word} 0 a -", f"remove {word} 0"), ["table", "table"])
            self.assertEqual(changes(f"add n 0 {word} -"), ["entry"])

    def test_no_keys(self):
        self.assertEqual(
            changes("add n 0 a -", "add n 0 a -", "add n 1 a -", "remove n 0", "remove n 0"),
            ["1", "same", "2", "3", "missing"],
        )

    def test_priorities(self):
        self.assertEqual(changes("add n 0 a -", "add n 255 a -", "remove n 255", "remove n 0"), ["1", "2", "3", "4"])

    def test_kinds_of_keys(self):
        self.assertEqual(
            changes(
                "add e 0 a - 0",
                "add e 0 a - 4294967295",
                "add e 0 a - 1&1",
                "add e 0 a - 1/1",
                "remove e 0 4294967295",
                "remove e 0 1",
            ),
            ["1", "2", "entry", "entry", "3", "missing"],
        )
        self.assertEqual(
            changes(
                "add m 0 a - 4294967295&4294967295",
                "add m 0 a - 0&0",
                "add m 0 a - 4&3",
                "add m 0 a - 4",
                "add m 0 a - 3&7",
                "remove m 0 3/7",
                "add m 0 a - 3/7",
                "remove m 0 7&3",
            ),
            ["1", "2", "entry", "entry", "3", "4", "5", "missing"],
        )
        self.assertEqual(
            changes(
                "add f 0 a - 4294967295/32",
                "add f 0 a - 0/0",
                "add f 0 a - 2147483648/1",
                "add f 0 a - 1/31",
                "add f 0 a - 1&32",
                "add f 0 a - 0/33",
            ),
            ["1", "2", "3", "entry", "4", "entry"],
        )

    def test_several_keys(self):
        self.assertEqual(
            changes(
                "add all 7 a - 255 3&7 4/1",
                "add all 7 a - 255 3&7",
                "add all 7 a - 255 3&7 4/1 0",
                "add all 7 a - 3&7 255 4/1",
                "add all 7 b 0,0,0 255 3/7 4&1",
                "remove all 7 4/1 3&7 255",
                "remove all 7 255 3&7 4/1",
            ),
            ["1", "entry", "entry", "entry", "same", "missing", "2"],
        )

    def test_args(self):
        self.assertEqual(
            changes(
                "add n 0 b 255,4294967295,1",
                "add n 1 b 0,0,0",
                "add n 2 b 256,0,0",
                "add n 3 b 0,0,2",
                "add n 4 b 0,0",
                "add n 5 b -",
                "add n 6 a 0",
                "add n 7 a -",
            ),
            ["1", "2", "entry", "entry", "entry", "entry", "entry", "3"],
        )

    def test_order_of_args(self):
        output = trace_of("add t 0 out 3 5", TURN, "packet 0 05", "tick 15")
        self.assertEqual(output[-1], "sent 30 0 3 05")
        text = PLAIN.replace("out(p: 3) { send p; }", "out(p: 8, q: 8) { send p - q; }")
        script = "start 1 8 8 1\n" + text + ".\nadd t 0 out 7,5 5\ntick 16\npacket 0 05\ntick 15\ntrace"
        self.assertEqual(run_script(script)[-1], "sent 30 0 2 05")

    def test_keys_and_priorities_of_entries(self):
        lines = ["add u 1 out 3 5/255", "add u 2 out 4 1&1", "add t 9 none - 5", TURN]
        lines += ["packet 0 05", "packet 0 04", "tick 17"]
        output = trace_of(*lines)
        self.assertEqual(output[-2:], ["sent 30 0 4 05", "sent 31 1 4 04"])
        # The greater priority decides, in whatever order the entries come.
        lines[0], lines[1] = "add u 2 out 4 1&1", "add u 3 out 3 5/255"
        self.assertEqual(trace_of(*lines)[-2:], ["sent 30 0 3 05", "sent 31 1 4 04"])


class PacketTest(unittest.TestCase):
    def test_octets(self):
        every = "".join(f"{octet:02x}" for octet in range(256))
        parts = ["03" + every[at:at + 126] for at in (0, 126, 252, 386)]
        for digits in ("00", "05", "05ff", "070a", "06" + "9f" * 63, *parts):
            output = trace_of("packet 7 " + digits, "tick 15")
            port = str(int(digits[1]))
            self.assertEqual(output, ["in 0 0 7", "entered 0 0 0", f"sent 14 0 {port} {digits}"])

    def test_ports(self):
        lines = [f"packet {port} 01" for port in range(8)]
        self.assertEqual(trace_of(*lines, "tick 1")[:8], [f"in 0 {port} {port}" for port in range(8)])

    def test_drops(self):
        output = trace_of("packet 0 ff", "packet 0 08", "tick 16")
        self.assertEqual(output[-2:], ["dropped 14 0 parse", "dropped 15 1 control"])


class TickTest(unittest.TestCase):
    def test_no_ticks(self):
        self.assertEqual(trace_of("packet 0 01", "tick 0"), [])
        self.assertEqual(
            trace_of("packet 0 01", "tick 0", "tick 0", "restart", "tick 1"),
            ["in 0 0 0", "restarted 0", "entered 0 0 0"],
        )

    def test_events_are_those_of_the_first_tick(self):
        output = trace_of("tick 2", "packet 0 01", "restart", "tick 3", "restart", "tick 1")
        self.assertEqual(output, ["in 2 0 0", "restarted 2", "entered 2 0 0", "restarted 5"])

    def test_order_of_events(self):
        lines = ["restart", "packet 0 01", "add v 0 a -", "program", "", ".", "remove v 0", "packet 1 01", "restart"]
        self.assertEqual(
            trace_of(*lines, "tick 1"),
            [
                "restarted 0",
                "in 0 0 0",
                "rejected 0 table",
                "rejected 0 TextError",
                "rejected 0 table",
                "in 0 1 1",
                "restarted 0",
                "entered 0 0 0",
            ],
        )

    def test_looking_keeps_events(self):
        lines = ["packet 0 01", "trace", "inside", "hits", "restart", "trace", "tick 1", "trace"]
        self.assertEqual(run(*lines), ["inside", "in 0 0 0", "restarted 0", "entered 0 0 0"])

    def test_events_without_a_tick(self):
        self.assertEqual(run("tick 5", "packet 0 01", "restart", "add v 0 a -", "trace", "inside", "hits"), ["inside"])

    def test_most_ticks(self):
        output = trace_of("tick 4096", "restart", "tick 4096", "restart", "tick 1")
        self.assertEqual(output, ["restarted 4096", "restarted 8192"])

    def test_ticks_without_events(self):
        self.assertEqual(trace_of("packet 0 05", *["tick 1"] * 14), ["in 0 0 0", "entered 0 0 0"])
        self.assertEqual(trace_of("packet 0 05", *["tick 1"] * 15)[2:], ["sent 14 0 5 05"])


class ShowTest(unittest.TestCase):
    def test_trace_twice(self):
        lines = ["packet 0 05", "tick 1", "trace", "trace", "tick 13", "trace", "inside", "tick 1", "trace", "trace"]
        self.assertEqual(run(*lines), ["in 0 0 0", "entered 0 0 0", "inside 0", "sent 14 0 5 05"])

    def test_every_kind_of_event(self):
        lines = ["start 1 2 1 16\n" + PLAIN + ".", "add v 0 a -", "add t 0 none - 200", "restart"]
        lines += ["packet 1 05", "packet 2 05", "packet 3 05", "tick 1", "packet 4 05", "tick 1", "packet 5 ff"]
        lines += ["tick 14", "tick 2", "trace"]
        self.assertEqual(
            run_script("\n".join(lines)),
            [
                "rejected 0 table",
                "accepted 0 1",
                "restarted 0",
                "in 0 0 1",
                "in 0 1 2",
                "refused 0 3",
                "entered 0 0 0",
                "in 1 2 4",
                "entered 1 1 0",
                "in 2 3 5",
                "entered 2 2 0",
                "entered 3 3 0",
                "sent 14 0 5 05",
                "turned 15 0 1",
                "lost 16 2 5",
                "dropped 17 3 parse",
            ],
        )

    def test_hits(self):
        self.assertEqual(run("hits", "tick 1", "hits"), [])
        lines = ["add t 0 out 6 1", "packet 0 01", "packet 0 02", TURN, "packet 0 01", "packet 0 c8", "tick 10", "hits"]
        expected = ["0 0 -1 2", "0 1 -1 2", "1 0 -1 1", "1 0 0 1", "1 1 -1 1"]
        self.assertEqual(run(*lines), expected)
        self.assertEqual(run(*lines, "hits"), expected * 2)

    def test_inside(self):
        self.assertEqual(run("inside", "tick 1", "inside"), ["inside", "inside"])
        self.assertEqual(run("packet 0 01", "inside", "tick 1", "inside"), ["inside", "inside 0"])
        lines = ["start 2 8 8 16\n" + PLAIN + "."] + [f"packet {port} 05" for port in range(8)] * 2
        lines += ["tick 1", "inside", "tick 14", "inside", "tick 100", "inside"]
        labels = " ".join(str(label) for label in range(16))
        self.assertEqual(
            run_script("\n".join(lines)), ["inside " + labels, "inside " + labels[2:], "inside 7 8"]
        )

    def test_inside_is_ascending(self):
        lines = ["start 2 8 8 1\n" + PLAIN + ".", "packet 1 05", "packet 0 05", "packet 3 05", "packet 2 05"]
        self.assertEqual(run_script("\n".join([*lines, "tick 1", "inside"])), ["inside 0 1 2 3"])


if __name__ == "__main__":
    unittest.main()
