"""The ledger of what was counted (point 13.6)."""


class Ledger:
    """How often units of each version had counted each choice."""

    def __init__(self):
        # By tuples (version, table, index).
        self.sums = {}

    def collect(self, version, counts):
        """Add the counts of a unit that had this version."""
        for (table, index), many in counts.items():
            key = (version, table, index)
            self.sums[key] = self.sums.get(key, 0) + many

    def total(self, others):
        """Return what the ledger and a list of pairs of versions and counts hold together."""
        whole = Ledger()
        whole.sums = {key: self.sums[key] for key in self.sums}
        for version, counts in others:
            whole.collect(version, counts)
        return {key: whole.sums[key] for key in sorted(whole.sums)}
