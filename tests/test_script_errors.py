"""Tests of scripts with wrong lines (point 17.4)."""

import unittest

from texts import PARSE_ERROR, PLAIN
from wholepackets.errors import CommandError, SwitchError
from wholepackets.script import run_script

START = "start 1 8 8 1\n" + PLAIN + ".\n"
GOOD = [
    "",
    "# wrong 1 2 3",
    "packet 0 00",
    "packet 7 " + "ff" * 64,
    "add t 0 a -",
    "add t 255 a 0,4294967295 0 4294967295 1&1 1/32",
    "remove t 0",
    "remove t 255 0 1&1 1/32",
    "restart",
    "tick 0",
    "tick 4096",
    "trace",
    "hits",
    "inside",
]

UNKNOWN = ["start1", "Tick 1", "TICK 1", "ticks 1", "tick1", "stop", ".", "..", ";", "-", "0", "@s", "restart;", "in 0 0 0"]
UNKNOWN += ["x", "end", "change t", "switch", "program# x", "a # b", "trace,"]
START_LINES = ["start", "start 1", "start 1 8", "start 1 8 8", "start 1 8 8 1 1", "start 1 8 8 1 x", "start 1 8 8 1 # x"]
START_LINES += ["start 0 8 8 1", "start 5 8 8 1", "start 10 8 8 1", "start 1 0 8 1", "start 1 17 8 1", "start 1 8 0 1"]
START_LINES += ["start 1 8 17 1", "start 1 8 8 0", "start 1 8 8 17", "start 99999999999 8 8 1", "start 1 8 8 4294967295"]
START_LINES += ["start -1 8 8 1", "start 1 +8 8 1", "start 1 8 08 1", "start 1 8 8 1.", "start 1 8 8 0x1", "start a b c d"]
START_LINES += ["start 1,8,8,1", "start 01 8 8 1", "start 1 8 8 -", "start 1 8 8 1_0"]
PROGRAM_LINES = ["program 1", "program x", "program .", "program #"]
ADD_LINES = ["add", "add t", "add t 0", "add t 0 a", "add t 256 a -", "add t -1 a -", "add t x a -", "add t 00 a -"]
ADD_LINES += ["add t 99999999999 a -", "add 0 a - 1", "add t 0 a x", "add t 0 a ,", "add t 0 a 1,", "add t 0 a ,1"]
ADD_LINES += ["add t 0 a 1,,2", "add t 0 a 1;2", "add t 0 a --", "add t 0 a -1", "add t 0 a 1,-", "add t 0 a 01"]
ADD_LINES += ["add t 0 a 4294967296", "add t 0 a 0x1", "add t 0 a 1, 2,", "add t 0 a 1 ,2", "add t 0 a 1&2"]
ADD_LINES += ["add t 4294967296 a -", "add t 1000 a -", "add t 0 a 1,4294967296"]
KEYS = ["x", "-", "-1", "+1", "01", "00", "0x1", "4294967296", "9" * 5000, "1&", "&1", "&", "1/", "/1", "/", "1&2&3", "1/2/3"]
KEYS += ["1&2/3", "1/2&3", "1&&2", "1//2", "1,2", "1.", "1_0", "1&01", "01&1", "1/01", "1&4294967296", "4294967296/1", "a&b"]
KEYS += ["1|2", "#", "# x", "1& 2", "1 &2", "1 / 2", "1&-1", "0b1", "1e3"]
ADD_LINES += ["add t 0 a - " + key for key in KEYS]
ADD_LINES += ["add t 0 a - 1 2&3 " + key + " 4" for key in KEYS]
REMOVE_LINES = ["remove", "remove t", "remove t 256", "remove t -1", "remove t x", "remove t 00", "remove t 0 -", "remove t 1&1"]
REMOVE_LINES += ["remove t 0 " + key for key in KEYS]
REMOVE_LINES += ["remove t 0 1/2 " + key + " 3" for key in KEYS]
PACKET_LINES = ["packet", "packet 0", "packet 00", "packet 0 00 00", "packet 0 00 # x", "packet 8 00", "packet 10 00"]
PACKET_LINES += ["packet -1 00", "packet x 00", "packet 00 00", "packet 4294967296 00", "packet 0 0", "packet 0 000", "packet 0 0A"]
PACKET_LINES += ["packet 0 FF", "packet 0 0g", "packet 0 0x00", "packet 0 " + "00" * 65, "packet 0 " + "0" * 127]
PACKET_LINES += ["packet 0 " + "0" * 129, "packet 0 -", "packet 0 +1", "packet 0 1_", "packet 0 00,00", "packet 0,00"]
TICK_LINES = ["tick", "tick 1 1", "tick 4097", "tick 5000", "tick 10000", "tick 4294967296", "tick -1", "tick +1", "tick 01"]
TICK_LINES += ["tick 00", "tick x", "tick 1.", "tick 0x1", "tick 1 # x", "tick " + "9" * 5000, "tick -", "tick 1,"]
BARE_LINES = ["restart 0", "restart x", "trace 0", "trace all", "hits 0", "hits t", "inside 0", "inside x", "restart restart"]
BARE_LINES += ["trace trace", "trace # x", "inside #"]

WRONG = UNKNOWN + START_LINES + PROGRAM_LINES + ADD_LINES + REMOVE_LINES + PACKET_LINES + TICK_LINES + BARE_LINES


class WrongLineTest(unittest.TestCase):
    def check(self, lines, number):
        """Check that a script is wrong in the line with a number."""
        with self.assertRaises(CommandError, msg=lines) as caught:
            run_script("\n".join(lines))
        self.assertEqual(caught.exception.line, number, msg=lines)
        self.assertIs(type(caught.exception.line), int)
        self.assertIsInstance(caught.exception, SwitchError)

    def check_everywhere(self, wrong):
        """Check a wrong line as the first one, as the last one and behind good ones."""
        for line in wrong:
            self.check([line], 1)
            self.check([line, ""], 1)
            self.check([line, *GOOD], 1)
            self.check([*GOOD, line], len(GOOD) + 1)
            self.check(["", "  " + line + "  ", "wrong"], 2)
            self.check(["trace", line, "wrong 1", line], 2)
        behind = START.split("\n")
        for line in wrong[:10]:
            self.check([*behind[:-1], *GOOD, line, "tick 1"], len(behind) + len(GOOD))

    def test_good_lines(self):
        self.assertEqual(run_script("\n".join(GOOD)), [])
        output = run_script(START + "\n".join(GOOD))
        self.assertEqual(output[:2], ["in 0 0 0", "in 0 1 7"])

    def test_unknown_words(self):
        self.check_everywhere(UNKNOWN)

    def test_start(self):
        self.check_everywhere(START_LINES)

    def test_program(self):
        self.check_everywhere(PROGRAM_LINES)

    def test_add(self):
        self.check_everywhere(ADD_LINES)

    def test_remove(self):
        self.check_everywhere(REMOVE_LINES)

    def test_packet(self):
        self.check_everywhere(PACKET_LINES)

    def test_tick(self):
        self.check_everywhere(TICK_LINES)

    def test_bare_words(self):
        self.check_everywhere(BARE_LINES)

    def test_wrong_line_before_a_text(self):
        for line in START_LINES + PROGRAM_LINES:
            self.check([line, *PLAIN.split("\n"), "."], 1)
            self.check([*START.split("\n"), line, "wrong"], len(START.split("\n")) + 1)

    def test_wrong_lines_in_texts(self):
        for line in WRONG:
            if line == ".":
                continue
            text = "\n".join(["start 1 8 8 1", *PLAIN.split("\n"), line + "#", ".", "program", line, "."])
            with self.assertRaises(CommandError) as caught:
                run_script(text + "\nwrong")
            self.assertEqual(caught.exception.line, text.count("\n") + 2)
        self.assertEqual(run_script("start 1 8 8 1\nwrong\n.\nprogram\nwrong\n."), ["error TextError"])

    def test_texts_without_an_end(self):
        for first in ("start 1 8 8 1", "program"):
            self.check([first], 1)
            self.check([first, ""], 1)
            self.check([first, *PLAIN.split("\n")], 1)
            self.check([first, " .", ". ", "..", "trace"], 1)
            self.check([*GOOD, first, "wrong", "tick x"], len(GOOD) + 1)
            self.check([*START.split("\n"), first, "x"], len(START.split("\n")) + 1)
            self.check(["program", ".", "", first, "start 1 8 8 1"], 4)
            self.check([first, "wrong", ".", "  " + first + " "], 4)

    def test_first_wrong_line_decides(self):
        self.check(["tick 1", "tick x", "packet", "start"], 2)
        self.check(["program", "tick x", ".", "tick y", "tick z"], 4)
        self.check(["tick x", "program"], 1)

    def test_wrong_lines_without_a_switch(self):
        self.check(["tick 1", "packet 8 00"], 2)
        self.check(["start 1 8 8 1", *PARSE_ERROR.split("\n"), ".", "tick 1", "tick 4097"], 6)

    def test_wrong_line_behind_long_runs(self):
        self.check([*START.split("\n")[:-1], "packet 0 01", "tick 20", "trace", "hits", "wrong"], START.count("\n") + 5)

    def test_example(self):
        self.check(["tick 1", "packet 8 00"], 2)


if __name__ == "__main__":
    unittest.main()
