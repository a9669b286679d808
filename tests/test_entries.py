"""Tests of entries (points 0.5 and 4.1 to 4.3)."""

import copy
import itertools
import unittest

from building import action, entry, header, make, table
from wholepackets.entries import call_of, choose, is_entry, matches

H = header("h", 4, 12, 32, 8, 8)
KEYS = {"a": 4, "b": 12, "c": 32}
PORT = ("packet", "port")
ACTIONS = [action("a"), action("b", [("x", 3), ("y", 32)]), action("c", [("x", 1)])]


def program_of(keys, uses=("a", "b"), default=("a", [])):
    """Return a program with the table "t", which has these keys."""
    tables = [table("other", [(PORT, "exact")], ["c"], ("c", [1]), 1), table("t", keys, uses, default, 4)]
    return make(headers=[H], meta=[("m", 5)], actions=ACTIONS, tables=tables)


def one_key(kind, name="a"):
    """Return a program whose table "t" has one key of a kind."""
    return program_of([(("h", name), kind)])


class ValidityTest(unittest.TestCase):
    def assert_item(self, program, item, valid):
        """Check whether an entry with one item is valid."""
        self.assertIs(is_entry(program, "t", entry([item])), valid, msg=item)

    def test_exact(self):
        for name, width in KEYS.items():
            greatest = 2 ** width - 1
            for item, valid in ((0, True), (1, True), (greatest, True), (greatest + 1, False), (-1, False)):
                self.assert_item(one_key("exact", name), item, valid)

    def test_mask(self):
        for name, width in KEYS.items():
            top = 2 ** width - 1
            good = [(0, 0), (0, top), (top, top), (1, 1), (0, 1), (top - 1, top - 1), (top - 1, top)]
            bad = [(1, 0), (top, top - 1), (2, 1), (0, top + 1), (top + 1, top + 1), (0, -1), (-1, -1), (-1, top)]
            for item in good:
                self.assert_item(one_key("mask", name), item, True)
            for item in bad:
                self.assert_item(one_key("mask", name), item, False)

    def test_prefix(self):
        for name, width in KEYS.items():
            top = 2 ** width - 1
            half = 2 ** (width - 1)
            good = [(0, 0), (0, 1), (half, 1), (half, width), (0, width)]
            good += [(top, width), (top - 1, width - 1), (2, width)]
            bad = [(1, 0), (half, 0), (top, 0), (half // 2, 1), (top, 1), (1, width - 1), (top, width - 1)]
            bad += [(0, -1), (0, width + 1), (top + 1, width), (2 * half, 1), (-1, width), (-1, 0), (-half, 1)]
            for item in good:
                self.assert_item(one_key("prefix", name), item, True)
            for item in bad:
                self.assert_item(one_key("prefix", name), item, False)

    def test_item_of_another_kind(self):
        for item in ((1, 1), (0, 0), (0, 4)):
            self.assert_item(one_key("exact"), item, False)
        for kind in ("mask", "prefix"):
            for item in (0, 1, 15):
                self.assert_item(one_key(kind), item, False)

    def test_keys_of_meta_and_the_port(self):
        program = program_of([(("meta", "m"), "exact"), (PORT, "mask")])
        self.assertTrue(is_entry(program, "t", entry([31, (7, 7)])))
        self.assertFalse(is_entry(program, "t", entry([32, (7, 7)])))
        self.assertFalse(is_entry(program, "t", entry([31, (8, 8)])))

    def test_number_of_items(self):
        keys = [(("h", "a"), "exact"), (("h", "b"), "mask"), (("h", "c"), "prefix")]
        items = [1, (2, 2), (0, 3)]
        for many in range(4):
            program = program_of(keys[:many])
            for given in range(4):
                self.assertIs(is_entry(program, "t", entry(items[:given])), given == many)
            self.assertFalse(is_entry(program, "t", entry([*items, 0])))

    def test_each_item_counts(self):
        program = program_of([(("h", "a"), "exact"), (("h", "b"), "mask"), (("h", "c"), "prefix")])
        good = [15, (4095, 4095), (4294967295, 32)]
        bad = [16, (1, 0), (1, 31)]
        for flags in itertools.product((False, True), repeat=3):
            items = [worse if flag else better for flag, better, worse in zip(flags, good, bad)]
            self.assertIs(is_entry(program, "t", entry(items)), not any(flags))

    def test_priority(self):
        for priority, valid in ((0, True), (1, True), (255, True), (-1, False), (256, False)):
            self.assertIs(is_entry(one_key("exact"), "t", entry([1], priority)), valid)

    def test_action(self):
        program = one_key("exact")
        self.assertTrue(is_entry(program, "t", entry([1], 0, "a")))
        self.assertTrue(is_entry(program, "t", entry([1], 0, "b", [1, 1])))
        # The action exists, but the table does not use it.
        self.assertFalse(is_entry(program, "t", entry([1], 0, "c", [1])))
        self.assertFalse(is_entry(program, "t", entry([1], 0, "nothing")))
        self.assertTrue(is_entry(program, "other", entry([1], 0, "c", [1])))
        self.assertFalse(is_entry(program, "other", entry([1], 0, "a")))

    def test_number_of_arguments(self):
        program = one_key("exact")
        self.assertFalse(is_entry(program, "t", entry([1], 0, "a", [1])))
        for args in ([], [1], [1, 1, 1]):
            self.assertFalse(is_entry(program, "t", entry([1], 0, "b", args)))

    def test_values_of_arguments(self):
        program = one_key("exact")
        for args in ([0, 0], [7, 4294967295]):
            self.assertTrue(is_entry(program, "t", entry([1], 0, "b", args)))
        for args in ([8, 0], [0, 4294967296], [-1, 0], [0, -1]):
            self.assertFalse(is_entry(program, "t", entry([1], 0, "b", args)))


class MatchingTest(unittest.TestCase):
    def matched(self, program, item):
        """Return the values of a key with four bits that an entry with one item matches."""
        return [value for value in range(16) if matches(program, "t", entry([item]), [value])]

    def test_exact(self):
        for item in range(16):
            self.assertEqual(self.matched(one_key("exact"), item), [item])

    def test_mask(self):
        for mask in range(16):
            for value in range(16):
                if value & mask == value:
                    expected = [other for other in range(16) if other & mask == value]
                    self.assertEqual(self.matched(one_key("mask"), (value, mask)), expected)
        self.assertEqual(self.matched(one_key("mask"), (0, 0)), list(range(16)))
        self.assertEqual(self.matched(one_key("mask"), (9, 15)), [9])
        self.assertEqual(self.matched(one_key("mask"), (8, 9)), [8, 10, 12, 14])

    def test_prefix(self):
        self.assertEqual(self.matched(one_key("prefix"), (0, 0)), list(range(16)))
        self.assertEqual(self.matched(one_key("prefix"), (8, 1)), list(range(8, 16)))
        self.assertEqual(self.matched(one_key("prefix"), (0, 1)), list(range(8)))
        self.assertEqual(self.matched(one_key("prefix"), (4, 2)), [4, 5, 6, 7])
        self.assertEqual(self.matched(one_key("prefix"), (10, 3)), [10, 11])
        self.assertEqual(self.matched(one_key("prefix"), (10, 4)), [10])

    def test_wide_keys(self):
        program = one_key("prefix", "c")
        self.assertTrue(matches(program, "t", entry([(0x0A000000, 8)]), [0x0AFFFFFF]))
        self.assertFalse(matches(program, "t", entry([(0x0A000000, 8)]), [0x0B000000]))
        self.assertTrue(matches(program, "t", entry([(0xFFFFFFFF, 32)]), [0xFFFFFFFF]))
        self.assertFalse(matches(program, "t", entry([(0xFFFFFFFF, 32)]), [0xFFFFFFFE]))

    def test_no_keys(self):
        self.assertIs(matches(program_of([]), "t", entry(), []), True)

    def test_all_keys_must_match(self):
        program = program_of([(("h", "a"), "exact"), (("h", "b"), "mask"), (PORT, "prefix")])
        row = entry([3, (16, 48), (4, 1)])
        self.assertIs(matches(program, "t", row, [3, 0xFDF, 6]), True)
        for values in ([2, 0xFDF, 6], [3, 0xFEF, 6], [3, 0xFDF, 3]):
            self.assertIs(matches(program, "t", row, values), False)


class ChoiceTest(unittest.TestCase):
    def test_greatest_priority(self):
        rows = [entry([(0, 0)], 4), entry([(0, 1)], 255), entry([(0, 2)], 254)]
        for order in itertools.permutations(range(3)):
            chosen = choose(one_key("mask"), "t", [rows[at] for at in order], [0])
            self.assertEqual(order[chosen], 1)

    def test_priority_goes_before_the_length(self):
        rows = [entry([(5, 4)], 1), entry([(0, 0)], 2)]
        self.assertEqual(choose(one_key("prefix"), "t", rows, [5]), 1)
        self.assertEqual(choose(one_key("prefix"), "t", rows[::-1], [5]), 0)

    def test_greatest_length(self):
        program = program_of([(("h", "b"), "mask"), (("h", "a"), "prefix")])
        rows = [entry([(0, length), (0, length)], 9) for length in range(5)]
        for order in itertools.permutations(range(5)):
            chosen = choose(program, "t", [rows[at] for at in order], [0, 0])
            self.assertEqual(order[chosen], 4)
            chosen = choose(program, "t", [rows[at] for at in order], [0, 2])
            self.assertEqual(order[chosen], 2)

    def test_installed_first(self):
        for kind, row in (("mask", (0, 3)), ("prefix", (0, 2)), ("exact", 0)):
            rows = [entry([row], 7, "b", [k, k]) for k in range(4)]
            self.assertEqual(choose(one_key(kind), "t", rows, [0]), 0)
            self.assertEqual(choose(one_key(kind), "t", [entry([row], 6), *rows], [0]), 1)

    def test_second_item_of_a_mask_is_no_length(self):
        rows = [entry([(0, 1)], 5), entry([(0, 15)], 5)]
        self.assertEqual(choose(one_key("mask"), "t", rows, [0]), 0)

    def test_of_the_entries_that_match(self):
        rows = [entry([1], 255), entry([2], 0), entry([3], 9)]
        self.assertEqual([choose(one_key("exact"), "t", rows, [value]) for value in range(5)], [-1, 0, 1, 2, -1])

    def test_no_entries(self):
        self.assertEqual(choose(one_key("exact"), "t", [], [0]), -1)
        self.assertEqual(choose(program_of([]), "t", [], []), -1)
        self.assertEqual(choose(program_of([]), "t", [entry([], 0), entry([], 1)], []), 1)

    def test_example(self):
        act = ("action", "go_to", [("p", 3)], [("send", ("param", "p"))])
        keyed = ("table", "t", [(("h", "a"), "prefix")], ["go_to"], ("go_to", [0]), 4)
        states = [("state", "start", "h", ("go", "accept"))]
        program = make(headers=[header("h", 8)], states=states, actions=[act], tables=[keyed])
        rows = [entry([(128, 1)], 0, "go_to", [1]), entry([(192, 2)], 0, "go_to", [2])]
        self.assertEqual([choose(program, "t", rows, [value]) for value in (200, 130, 5)], [1, 0, -1])
        self.assertEqual(call_of(program, "t", rows, 1), ("go_to", [2]))
        self.assertEqual(call_of(program, "t", rows, -1), ("go_to", [0]))


class CallTest(unittest.TestCase):
    def test_entries_and_default(self):
        program = program_of([], ["b"], ("b", [3, 9]))
        rows = [entry([], 0, "b", [1, 2]), entry([], 1, "b", [4, 5])]
        calls = [call_of(program, "t", rows, index) for index in (0, 1, -1)]
        self.assertEqual(calls, [("b", [1, 2]), ("b", [4, 5]), ("b", [3, 9])])
        self.assertEqual([type(call) for call in calls], [tuple] * 3)
        self.assertEqual(call_of(program, "other", [], -1), ("c", [1]))

    def test_returned_lists_may_be_changed(self):
        program = program_of([], ["b"], ("b", [3, 9]))
        rows = [entry([], 0, "b", [1, 2])]
        for index in (0, -1):
            expected = call_of(program, "t", rows, index)[1][:]
            call_of(program, "t", rows, index)[1].append(7)
            self.assertEqual(call_of(program, "t", rows, index), ("b", expected))

    def test_nothing_is_modified(self):
        program = program_of([(("h", "a"), "prefix"), (("h", "b"), "mask")], ["b"], ("b", [3, 9]))
        rows = [entry([(8, 2), (1, 1)], 3, "b", [1, 2]), entry([(8, 1), (1, 1)], 4, "b", [1, 2])]
        values = [8, 1]
        kept = copy.deepcopy((program, rows, values))
        self.assertTrue(is_entry(program, "t", rows[0]))
        self.assertTrue(matches(program, "t", rows[0], values))
        self.assertEqual(choose(program, "t", rows, values), 1)
        call_of(program, "t", rows, 1)
        self.assertEqual((program, rows, values), kept)


if __name__ == "__main__":
    unittest.main()
