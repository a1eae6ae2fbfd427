"""The bytes that are picked out of those made."""


class Picks:
    """At which rate bytes are picked, and what has been picked of each node."""

    def __init__(self):
        self.rate = 0
        # bytes made since the last that was picked, or since the rate was told
        self.unpicked = 0
        self.total = 0
        # from a node to how many of its bytes were picked, and their rates together
        self.by_node = {}

    def start(self, rate):
        """Pick each rate-th byte from now on, none at a rate of 0."""
        self.rate = rate
        self.unpicked = 0

    def note_made(self, k, size):
        """Note that node k has asked for so many bytes."""
        if self.rate == 0:
            return
        run = self.unpicked + size
        self.unpicked = run % self.rate
        self.count_picked(k, run // self.rate)

    def count_picked(self, k, more):
        """Count so many bytes more as picked of node k."""
        # a node without a picked byte is not to be told of, so it has no entry
        if more == 0:
            return
        before = self.by_node.get(k, (0, 0))
        self.by_node[k] = (before[0] + more, before[1] + more * self.rate)
        self.total += more

    def of_nodes(self):
        """For each node in order that has any: it, how many bytes, their rates together."""
        return [(k, self.by_node[k][0], self.by_node[k][1]) for k in sorted(self.by_node)]
