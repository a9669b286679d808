"""Queues (point 14.1)."""


class Queue:
    """Gives its items in the order in which they were put, with a gap between them."""

    def __init__(self, capacity, gap):
        self.capacity = capacity
        self.gap = gap
        self.held = []
        # The first tick in which an item may be taken.
        self.ready = 0

    def put(self, item):
        """Put an item at the end, and tell if there was room for it."""
        if len(self.held) >= self.capacity:
            return False
        self.held.append(item)
        return True

    def take(self, tick):
        """Remove the first item and return it, or return None if there is none or it is early."""
        if not self.held or tick < self.ready:
            return None
        self.ready = tick + self.gap
        return self.held.pop(0)

    def waiting(self):
        """Return the list of the items, in order."""
        return list(self.held)
