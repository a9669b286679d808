"""Tests of queues (point 14.1)."""

import unittest

from wholepackets.queues import Queue


class QueueTest(unittest.TestCase):
    def test_empty(self):
        queue = Queue(3, 2)
        self.assertEqual(queue.waiting(), [])
        self.assertIsNone(queue.take(0))
        self.assertIsNone(queue.take(5))
        self.assertEqual(queue.waiting(), [])

    def test_order(self):
        queue = Queue(16, 1)
        for item in "cab":
            self.assertIs(queue.put(item), True)
        self.assertEqual(queue.waiting(), ["c", "a", "b"])
        self.assertEqual([queue.take(0), queue.take(1)], ["c", "a"])
        self.assertIs(queue.put("d"), True)
        self.assertEqual(queue.waiting(), ["b", "d"])
        self.assertEqual([queue.take(2), queue.take(3), queue.take(4)], ["b", "d", None])

    def test_equal_items(self):
        queue = Queue(4, 1)
        self.assertEqual([queue.put(item) for item in (7, 7, 0, 7)], [True] * 4)
        self.assertEqual([queue.take(tick) for tick in range(5)], [7, 7, 0, 7, None])

    def test_capacity(self):
        for capacity in (1, 2, 8, 15, 16):
            queue = Queue(capacity, 1)
            self.assertEqual([queue.put(k) for k in range(capacity)], [True] * capacity)
            for _ in range(3):
                self.assertIs(queue.put(99), False)
            self.assertEqual(queue.waiting(), list(range(capacity)))
            self.assertEqual(queue.take(4), 0)
            self.assertIs(queue.put(50), True)
            self.assertIs(queue.put(51), False)
            self.assertEqual(queue.waiting(), [*range(1, capacity), 50])

    def test_gap(self):
        for gap in (1, 2, 3, 15, 16):
            queue = Queue(16, gap)
            for item in range(5):
                queue.put(item)
            found = [queue.take(tick) for tick in range(5 * gap)]
            expected = [None] * (5 * gap)
            expected[::gap] = range(5)
            self.assertEqual(found, expected)

    def test_take_after_more_than_the_gap(self):
        queue = Queue(4, 5)
        for item in "abcd":
            queue.put(item)
        ticks = (3, 7, 8, 20, 24, 25, 29, 30)
        self.assertEqual([queue.take(tick) for tick in ticks], ["a", None, "b", "c", None, "d", None, None])

    def test_first_take_in_any_tick(self):
        for gap in (1, 16):
            for tick in (0, 1, 15, 16, 17, 1000):
                queue = Queue(1, gap)
                queue.put("a")
                self.assertEqual(queue.take(tick), "a")

    def test_gap_counts_from_what_was_taken(self):
        # Neither a take that gives nothing nor a put begins the gap anew.
        queue = Queue(2, 4)
        queue.put("a")
        self.assertEqual([queue.take(10), queue.take(11), queue.take(13)], ["a", None, None])
        queue.put("b")
        queue.put("c")
        self.assertEqual([queue.take(14), queue.take(15), queue.take(17), queue.take(18)], ["b", None, None, "c"])
        self.assertIsNone(queue.take(22))
        queue.put("d")
        self.assertEqual(queue.take(23), "d")

    def test_too_early_changes_nothing(self):
        queue = Queue(2, 16)
        queue.put("a")
        queue.put("b")
        queue.take(0)
        for tick in range(1, 16):
            self.assertIsNone(queue.take(tick))
            self.assertEqual(queue.waiting(), ["b"])
        self.assertEqual(queue.take(16), "b")

    def test_waiting_is_changed_later(self):
        queue = Queue(2, 1)
        queue.put("a")
        found = queue.waiting()
        found.append("x")
        found.append("y")
        self.assertEqual(queue.waiting(), ["a"])
        self.assertIs(queue.put("b"), True)
        self.assertEqual(found, ["a", "x", "y"])
        queue.waiting().clear()
        self.assertEqual([queue.take(0), queue.take(1)], ["a", "b"])

    def test_queues_are_apart(self):
        first, second = Queue(1, 4), Queue(1, 4)
        first.put("a")
        self.assertEqual(second.waiting(), [])
        second.put("b")
        self.assertEqual([first.take(3), second.take(4)], ["a", "b"])

    def test_example(self):
        queue = Queue(2, 3)
        self.assertEqual(
            [queue.put("a"), queue.put("b"), queue.put("c"), queue.take(5), queue.take(7), queue.take(8)],
            [True, True, False, "a", None, "b"],
        )


if __name__ == "__main__":
    unittest.main()
