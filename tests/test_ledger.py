"""Tests of the ledger (point 13.6)."""

import unittest

from wholepackets.ledger import Ledger


class LedgerTest(unittest.TestCase):
    def test_empty(self):
        ledger = Ledger()
        self.assertEqual(ledger.total([]), {})
        ledger.collect(3, {})
        self.assertEqual(ledger.total([]), {})
        self.assertEqual(ledger.total([(1, {}), (3, {})]), {})

    def test_versions(self):
        ledger = Ledger()
        ledger.collect(4, {(1, 2): 5, (0, -1): 1})
        ledger.collect(3, {(1, 2): 7})
        self.assertEqual(ledger.total([]), {(3, 1, 2): 7, (4, 0, -1): 1, (4, 1, 2): 5})

    def test_equal_versions_and_choices(self):
        ledger = Ledger()
        ledger.collect(4, {(1, 2): 5, (0, -1): 1})
        ledger.collect(4, {(1, 2): 10})
        ledger.collect(4, {(1, 2): 100, (1, 3): 2})
        self.assertEqual(ledger.total([]), {(4, 0, -1): 1, (4, 1, 2): 115, (4, 1, 3): 2})

    def test_order_of_the_keys(self):
        ledger = Ledger()
        ledger.collect(10, {(0, 1): 1, (0, 0): 1, (0, -1): 1})
        ledger.collect(9, {(1, -1): 1, (0, 15): 1})
        ledger.collect(2, {(7, 3): 1})
        others = [(9, {(0, 2): 1}), (0, {(3, -1): 1}), (10, {(1, 0): 1})]
        self.assertEqual(
            list(ledger.total(others)),
            [
                (0, 3, -1),
                (2, 7, 3),
                (9, 0, 2),
                (9, 0, 15),
                (9, 1, -1),
                (10, 0, -1),
                (10, 0, 0),
                (10, 0, 1),
                (10, 1, 0),
            ],
        )
        self.assertEqual(list(ledger.total([]))[:2], [(2, 7, 3), (9, 0, 15)])

    def test_others_are_added(self):
        ledger = Ledger()
        ledger.collect(2, {(0, -1): 3})
        others = [(1, {(0, 4): 1}), (2, {(0, -1): 1}), (2, {(0, -1): 20, (5, 5): 1})]
        expected = {(1, 0, 4): 1, (2, 0, -1): 24, (2, 5, 5): 1}
        self.assertEqual(ledger.total(others), expected)
        self.assertEqual(ledger.total(others), expected)
        self.assertEqual(ledger.total([]), {(2, 0, -1): 3})

    def test_arguments_are_not_modified(self):
        ledger = Ledger()
        counts = {(0, -1): 3}
        others = [(2, {(0, -1): 1}), (2, {(0, -1): 1})]
        ledger.collect(2, counts)
        ledger.collect(2, counts)
        ledger.total(others)
        self.assertEqual(counts, {(0, -1): 3})
        self.assertEqual(others, [(2, {(0, -1): 1}), (2, {(0, -1): 1})])

    def test_what_is_changed_later(self):
        ledger = Ledger()
        counts = {(0, -1): 3}
        ledger.collect(2, counts)
        counts[(0, -1)] = 50
        counts[(0, 0)] = 1
        others = [(3, {(0, 0): 1})]
        found = ledger.total(others)
        found[(2, 0, -1)] = 9
        found[(9, 9, 9)] = 9
        others.append((4, {}))
        found = ledger.total([])
        self.assertEqual(found, {(2, 0, -1): 3})
        found.clear()
        self.assertEqual(ledger.total([]), {(2, 0, -1): 3})

    def test_ledgers_are_apart(self):
        first, second = Ledger(), Ledger()
        first.collect(0, {(0, 0): 1})
        self.assertEqual(second.total([]), {})

    def test_example(self):
        ledger = Ledger()
        ledger.collect(2, {(0, -1): 3})
        total = ledger.total([(1, {(0, 4): 1}), (2, {(0, -1): 1})])
        self.assertEqual(list(total.items()), [((1, 0, 4), 1), ((2, 0, -1), 4)])


if __name__ == "__main__":
    unittest.main()
