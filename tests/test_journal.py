"""Tests of the journal (points 12.1 and 12.2)."""

import copy
import unittest

from building import action, entry, header, make, param, state, table
from texts import BUILD_ERROR, LONG_CONTROL, OTHER, PARSE_ERROR, PLAIN, RULE_ERROR
from wholepackets.errors import BuildError, ChangeError, RuleError, SwitchError, TextError
from wholepackets.journal import Journal
from wholepackets.parsing import parse_program
from wholepackets.writing import write_program

EMPTY = "program p parser { state start { go accept; } } control { }"
OUT = [("send", param("p"))]


def text_of(*tables, width=8, params=(("p", 3),), uses=("out", "none")):
    """Return the text of a program whose tables can use two actions."""
    used = [part for part in (action("out", params, OUT), action("none")) if part[1] in uses]
    return write_program(
        make(headers=[header("h", width, 16 - width)], states=[state("start", "h")], actions=used, tables=tables)
    )


def exact(name, size=16, uses=("out", "none"), default=("none", [])):
    """Return a table with the first field of the header as its key."""
    return table(name, [(("h", "a"), "exact")], uses, default, size)


def filled(text, *changes):
    """Return a journal of a text to which changes were submitted."""
    journal = Journal(text)
    for change in changes:
        journal.submit(change)
    return journal


class StartTest(unittest.TestCase):
    def test_version_0(self):
        journal = Journal(PLAIN)
        self.assertEqual(journal.latest(), 0)
        self.assertEqual(journal.configuration(0), (parse_program(PLAIN), {"t": [], "u": []}))
        self.assertIs(type(journal.configuration(0)), tuple)

    def test_no_tables(self):
        self.assertEqual(Journal(EMPTY).configuration(0), (parse_program(EMPTY), {}))

    def test_errors(self):
        for text, line in ((PARSE_ERROR, 2), ("", 1), (PLAIN + "@", PLAIN.count("\n") + 1)):
            with self.assertRaises(TextError) as caught:
                Journal(text)
            self.assertEqual(caught.exception.line, line)
        with self.assertRaises(RuleError) as caught:
            Journal(RULE_ERROR)
        self.assertEqual(caught.exception.rule, "parser")
        with self.assertRaises(BuildError) as caught:
            Journal(BUILD_ERROR)
        self.assertIsInstance(caught.exception, SwitchError)

    def test_order_of_errors(self):
        both = "program p parser { } control { " + LONG_CONTROL
        with self.assertRaises(RuleError):
            Journal(both + "}")
        with self.assertRaises(TextError):
            Journal(both)
        with self.assertRaises(TextError):
            Journal(BUILD_ERROR + " }")

    def test_twelve_stages(self):
        journal = Journal(BUILD_ERROR.replace("control { if packet.port == 0 { }", "control {"))
        self.assertEqual(journal.latest(), 0)

    def test_example(self):
        text = (
            "program p parser { state start { go accept; } } action a() { } "
            "table t { use a; default a(); size 1; } control { apply t; }"
        )
        journal = Journal(text)
        self.assertEqual(journal.submit(("add", "t", ("entry", [], 3, "a", []))), 1)
        self.assertEqual(journal.configuration(1)[1], {"t": [("entry", [], 3, "a", [])]})
        with self.assertRaises(ChangeError):
            journal.submit(("add", "t", ("entry", [], 4, "a", [])))


class ProgramTest(unittest.TestCase):
    ROWS = [entry([k], k % 3, "out", [k]) for k in range(5)]

    def kept(self, rows, old, new):
        """Return the entries of all tables after a change of the program."""
        journal = filled(old, *[("add", "t", row) for row in rows])
        version = journal.submit(("program", new))
        self.assertEqual(version, len(rows) + 1)
        self.assertEqual(journal.latest(), version)
        program, entries = journal.configuration(version)
        self.assertEqual(program, parse_program(new))
        self.assertEqual(list(entries), [part[1] for part in program[6]])
        return entries

    def test_same_table(self):
        for rows in ([], self.ROWS, self.ROWS[::-1]):
            self.assertEqual(self.kept(rows, text_of(exact("t")), text_of(exact("t"))), {"t": rows})

    def test_new_tables(self):
        old = text_of(exact("t"))
        self.assertEqual(
            self.kept(self.ROWS, old, text_of(exact("n"), exact("t"), exact("m"))), {"n": [], "t": self.ROWS, "m": []}
        )

    def test_lost_tables(self):
        old = text_of(exact("t"), exact("s"))
        self.assertEqual(self.kept(self.ROWS, old, text_of(exact("s"))), {"s": []})
        self.assertEqual(self.kept(self.ROWS, old, EMPTY), {})
        journal = filled(old, ("add", "t", self.ROWS[0]), ("program", EMPTY), ("program", old))
        self.assertEqual(journal.configuration(3)[1], {"t": [], "s": []})

    def test_smaller_size(self):
        old = text_of(exact("t"))
        for size in (1, 4, 5, 6, 16):
            self.assertEqual(self.kept(self.ROWS, old, text_of(exact("t", size))), {"t": self.ROWS[:size]})

    def test_entries_that_are_not_valid_any_more(self):
        old = text_of(exact("t"))
        rows = [entry([200], 0, "out", [1]), *self.ROWS, entry([8], 0, "none")]
        found = self.kept(rows, old, text_of(exact("t"), width=4))
        self.assertEqual(found, {"t": rows[1:]})
        found = self.kept(rows, old, text_of(exact("t"), params=[("p", 1)]))
        self.assertEqual(found, {"t": [rows[0], rows[1], rows[2], rows[6]]})
        found = self.kept(rows, old, text_of(exact("t"), params=[("p", 3), ("q", 1)]))
        self.assertEqual(found, {"t": [rows[6]]})
        found = self.kept(rows, old, text_of(exact("t", uses=["none"])))
        self.assertEqual(found, {"t": [rows[6]]})
        found = self.kept(rows, old, text_of(exact("t", uses=["none"]), uses=["none"]))
        self.assertEqual(found, {"t": [rows[6]]})
        found = self.kept(rows, old, text_of(table("t", [(("h", "a"), "mask")], ["none"], ("none", []))))
        self.assertEqual(found, {"t": []})
        keys = [(("h", "a"), "exact"), (("h", "b"), "exact")]
        found = self.kept(rows, old, text_of(table("t", keys, ["none"], ("none", []))))
        self.assertEqual(found, {"t": []})

    def test_size_counts_valid_entries(self):
        rows = [entry([200], 0, "out", [1]), *self.ROWS, entry([100], 0, "out", [1])]
        found = self.kept(rows, text_of(exact("t")), text_of(exact("t", 3), width=4))
        self.assertEqual(found, {"t": self.ROWS[:3]})

    def test_pairs_that_are_valid_for_another_kind(self):
        old = text_of(table("t", [(("h", "a"), "mask")], ["none"], ("none", [])))
        new = text_of(table("t", [(("h", "a"), "prefix")], ["none"], ("none", [])))
        rows = [entry([(0, 255)], 0, "none"), entry([(0, 8)], 0, "none"), entry([(1, 1)], 0, "none")]
        self.assertEqual(self.kept(rows, old, new), {"t": [rows[1]]})

    def test_errors(self):
        journal = filled(PLAIN, ("add", "t", entry([1], 0, "none")))
        before = [copy.deepcopy(journal.configuration(version)) for version in (0, 1)]
        both = "program p parser { } control { " + LONG_CONTROL
        for text, kind in (
            (PARSE_ERROR, TextError),
            ("@", TextError),
            (both, TextError),
            (RULE_ERROR, RuleError),
            (both + "}", RuleError),
            (BUILD_ERROR, BuildError),
        ):
            with self.assertRaises(kind):
                journal.submit(("program", text))
            self.assertEqual(journal.latest(), 1)
            self.assertEqual([journal.configuration(version) for version in (0, 1)], before)
        with self.assertRaises(TextError) as caught:
            journal.submit(("program", PARSE_ERROR))
        self.assertEqual(caught.exception.line, 2)
        with self.assertRaises(RuleError) as caught:
            journal.submit(("program", RULE_ERROR))
        self.assertEqual(caught.exception.rule, "parser")
        self.assertEqual(journal.submit(("program", OTHER)), 2)

    def test_same_text(self):
        journal = filled(PLAIN, ("program", PLAIN), ("program", PLAIN))
        self.assertEqual(journal.latest(), 2)
        self.assertEqual(journal.configuration(2), journal.configuration(0))


class AddTest(unittest.TestCase):
    def setUp(self):
        self.journal = Journal(PLAIN)

    def check_rejected(self, change, reason):
        """Check that a change is rejected, and that nothing changes."""
        latest = self.journal.latest()
        before = copy.deepcopy([self.journal.configuration(version) for version in range(latest + 1)])
        kept = copy.deepcopy(change)
        with self.assertRaises(ChangeError) as caught:
            self.journal.submit(change)
        self.assertEqual(caught.exception.reason, reason)
        self.assertEqual(self.journal.latest(), latest)
        self.assertEqual([self.journal.configuration(version) for version in range(latest + 1)], before)
        self.assertEqual(change, kept)

    def check_accepted(self, change, **entries):
        """Check that a change is accepted and which entries there are behind it."""
        version = self.journal.latest() + 1
        kept = copy.deepcopy(change)
        self.assertEqual(self.journal.submit(change), version)
        self.assertEqual(self.journal.latest(), version)
        self.assertEqual(self.journal.configuration(version), (parse_program(PLAIN), {"t": [], "u": [], **entries}))
        self.assertEqual(change, kept)

    def test_add(self):
        rows = [entry([k], priority, "none") for k, priority in ((9, 0), (3, 255), (255, 7), (0, 7))]
        other = entry([(3, 7)], 1, "out", [5])
        for many in range(1, 5):
            self.check_accepted(("add", "t", rows[many - 1]), t=rows[:many])
        self.check_accepted(("add", "u", other), t=rows, u=[other])

    def test_earlier_versions_stay(self):
        found = [self.journal.configuration(0)]
        kept = copy.deepcopy(found)
        for change in (
            ("add", "t", entry([1], 0, "none")),
            ("add", "t", entry([2], 0, "none")),
            ("remove", "t", [1], 0),
            ("batch", [("add", "u", entry([(0, 0)], 0, "none")), ("remove", "t", [2], 0)]),
            ("program", OTHER),
            ("program", EMPTY),
        ):
            version = self.journal.submit(change)
            self.assertEqual(version, len(found))
            found.append(self.journal.configuration(version))
            kept.append(copy.deepcopy(found[-1]))
            self.assertEqual(found, kept)
            self.assertEqual([self.journal.configuration(at) for at in range(version + 1)], kept)
        self.assertEqual([len(entries.get("t", [])) for _, entries in kept], [0, 1, 2, 1, 0, 0, 0])

    def test_same_keys_or_same_priority(self):
        rows = [entry([1], 0, "none"), entry([1], 1, "none"), entry([2], 0, "none")]
        self.check_accepted(("add", "t", rows[0]), t=rows[:1])
        self.check_accepted(("add", "t", rows[1]), t=rows[:2])
        self.check_accepted(("add", "t", rows[2]), t=rows)
        for row in rows:
            self.check_rejected(("add", "t", row), "same")
            self.check_rejected(("add", "t", entry(row[1], row[2], "out", [3])), "same")

    def test_same_pairs(self):
        row = entry([(0, 7)], 3, "none")
        self.check_accepted(("add", "u", row), u=[row])
        self.check_rejected(("add", "u", entry([(0, 7)], 3, "out", [0])), "same")
        other = entry([(0, 3)], 3, "none")
        self.check_accepted(("add", "u", other), u=[row, other])

    def test_table(self):
        for name in ("v", "T", "h", ""):
            self.check_rejected(("add", name, entry([1], 0, "none")), "table")
            self.check_rejected(("add", name, entry([], 999, "nobody")), "table")
            self.check_rejected(("remove", name, [1], 0), "table")

    def test_entry(self):
        for row in (
            entry([256], 0, "none"),
            entry([-1], 0, "none"),
            entry([(1, 1)], 0, "none"),
            entry([], 0, "none"),
            entry([1, 1], 0, "none"),
            entry([1], 256, "none"),
            entry([1], -1, "none"),
            entry([1], 0, "nobody"),
            entry([1], 0, "out"),
            entry([1], 0, "out", [8]),
            entry([1], 0, "none", [0]),
        ):
            self.check_rejected(("add", "t", row), "entry")
        for row in (entry([(4, 3)], 0, "none"), entry([(0, 0)], 0, "same"), entry([1], 0, "none")):
            self.check_rejected(("add", "u", row), "entry")

    def test_full(self):
        rows = [entry([k], 0, "none") for k in range(4)]
        for many, row in enumerate(rows, 1):
            self.check_accepted(("add", "t", row), t=rows[:many])
        self.check_rejected(("add", "t", entry([4], 0, "none")), "full")
        self.check_rejected(("add", "t", entry([3], 1, "none")), "full")

    def test_first_reason(self):
        rows = [entry([(k, 3)], 0, "none") for k in range(2)]
        self.check_accepted(("add", "u", rows[0]), u=rows[:1])
        self.check_rejected(("add", "u", entry([(0, 3)], 0, "nobody")), "entry")
        self.check_accepted(("add", "u", rows[1]), u=rows)
        self.check_rejected(("add", "u", rows[0]), "same")
        self.check_rejected(("add", "u", entry([(1, 3)], 0, "out", [1])), "same")
        self.check_rejected(("add", "u", entry([(0, 3)], 0, "out", [8])), "entry")
        self.check_rejected(("add", "u", entry([(2, 3)], 0, "out", [8])), "entry")
        self.check_rejected(("add", "u", entry([(2, 3)], 0, "out", [7])), "full")

    def test_remove(self):
        rows = [entry([k], k, "none") for k in (5, 1, 3, 2)]
        for row in rows:
            self.journal.submit(("add", "t", row))
        self.check_accepted(("remove", "t", [1], 1), t=[rows[0], rows[2], rows[3]])
        self.check_accepted(("remove", "t", [2], 2), t=[rows[0], rows[2]])
        self.check_accepted(("remove", "t", [5], 5), t=[rows[2]])
        self.check_accepted(("remove", "t", [3], 3))

    def test_removed_and_added_again(self):
        rows = [entry([k], 0, "none") for k in range(3)]
        for row in rows:
            self.journal.submit(("add", "t", row))
        self.check_accepted(("remove", "t", [0], 0), t=rows[1:])
        self.check_accepted(("add", "t", rows[0]), t=[*rows[1:], rows[0]])
        self.check_rejected(("add", "t", rows[0]), "same")

    def test_remove_one_of_several(self):
        rows = [entry([1], 0, "none"), entry([1], 1, "none"), entry([2], 1, "none")]
        for row in rows:
            self.journal.submit(("add", "t", row))
        self.check_accepted(("remove", "t", [1], 1), t=[rows[0], rows[2]])

    def test_remove_pairs(self):
        rows = [entry([(0, 7)], 2, "none"), entry([(0, 3)], 2, "none")]
        for row in rows:
            self.journal.submit(("add", "u", row))
        self.check_accepted(("remove", "u", [(0, 3)], 2), u=rows[:1])

    def test_missing(self):
        self.check_rejected(("remove", "t", [1], 0), "missing")
        row = entry([1], 3, "none")
        self.check_accepted(("add", "t", row), t=[row])
        for keys, priority in (([1], 0), ([2], 3), ([], 3), ([1, 1], 3), ([(1, 255)], 3), ([999], 3), ([1], 999)):
            self.check_rejected(("remove", "t", keys, priority), "missing")
        self.check_rejected(("remove", "u", [1], 3), "missing")

    def test_batch(self):
        rows = [entry([k], 0, "none") for k in range(4)]
        other = entry([(0, 0)], 0, "none")
        changes = [("add", "t", row) for row in rows[:3]] + [("add", "u", other), ("remove", "t", [1], 0)]
        self.check_accepted(("batch", changes), t=[rows[0], rows[2]], u=[other])
        self.check_accepted(("batch", [("add", "t", rows[3])]), t=[rows[0], rows[2], rows[3]], u=[other])
        self.check_accepted(("batch", [("remove", "u", [(0, 0)], 0)]), t=[rows[0], rows[2], rows[3]])

    def test_changes_of_a_batch_are_made_one_after_the_other(self):
        rows = [entry([(k, 3)], 0, "none") for k in range(3)]
        batch = [("add", "u", rows[0]), ("add", "u", rows[1]), ("remove", "u", [(0, 3)], 0), ("add", "u", rows[2])]
        self.check_accepted(("batch", batch), u=rows[1:])
        again = [("remove", "u", [(1, 3)], 0), ("add", "u", rows[1])]
        self.check_accepted(("batch", again), u=[rows[2], rows[1]])
        self.check_rejected(("batch", again[::-1]), "same")

    def test_rejected_batch(self):
        row = entry([(0, 3)], 0, "none")
        good = ("add", "t", entry([1], 0, "none"))
        self.check_accepted(("add", "u", row), u=[row])
        wrong = {
            "table": ("add", "v", row),
            "entry": ("add", "u", entry([1], 0, "none")),
            "same": ("add", "u", row),
            "missing": ("remove", "t", [9], 0),
        }
        for reason, change in wrong.items():
            for changes in ([change], [good, change], [change, good], [good, change, good]):
                self.check_rejected(("batch", changes), reason)
            for second in wrong.values():
                self.check_rejected(("batch", [good, change, second]), reason)
        many = [("add", "t", entry([k], 0, "none")) for k in range(5)]
        self.check_rejected(("batch", many), "full")
        self.check_rejected(("batch", [good, good]), "same")
        self.check_rejected(("batch", [("remove", "u", [(0, 3)], 0)] * 2), "missing")

    def test_sixteen_changes(self):
        changes = []
        for k in range(8):
            changes += [("add", "t", entry([k], 0, "none")), ("remove", "t", [k], 0)]
        self.check_accepted(("batch", changes))
        self.check_accepted(("batch", changes[:15]), t=[entry([7], 0, "none")])

    def test_batch_that_is_changed_later(self):
        row = entry([1], 0, "none")
        keys = [1]
        changes = [("add", "t", row)]
        self.journal.submit(("batch", changes))
        changes.append(("remove", "t", keys, 0))
        changes[0] = ("add", "t", entry([2], 0, "none"))
        self.assertEqual(self.journal.configuration(1)[1], {"t": [row], "u": []})
        self.journal.submit(("remove", "t", keys, 0))
        keys[0] = 7
        self.assertEqual(self.journal.configuration(2)[1], {"t": [], "u": []})


if __name__ == "__main__":
    unittest.main()
