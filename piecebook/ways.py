"""The ways that have been gone, a node for each, and what each node has asked for."""

from piecebook.limits import FULL, MOST_DEPTH, MOST_NODES, NOT_SO_LONG, NOT_THERE

# which of a node's sums is meant
OWN_LIVE = 0
OWN_MADE = 1
OWN_PEAK = 2
ALL_LIVE = 3


class Node:
    """One way: its last who behind the node above, its own sums and those with all below."""

    def __init__(self, above, who, depth):
        self.above = above
        self.who = who
        self.depth = depth
        self.made_pieces = 0
        self.made_bytes = 0
        self.live_pieces = 0
        self.live_bytes = 0
        self.peak_bytes = 0
        self.all_live_pieces = 0
        self.all_live_bytes = 0
        self.all_made_bytes = 0


def sum_of(node, by):
    """One of a node's sums of bytes."""
    if by == OWN_LIVE:
        return node.live_bytes
    if by == OWN_MADE:
        return node.made_bytes
    if by == OWN_PEAK:
        return node.peak_bytes
    return node.all_live_bytes


class Ways:
    """All nodes by their numbers, and the node of the way as it stands."""

    def __init__(self):
        self.nodes = [Node(0, 0, 0)]
        # from the node above and the who to the node
        self.steps = {}
        self.here = 0

    def has(self, k):
        """Whether there is a node k."""
        return 0 <= k < len(self.nodes)

    def depth_here(self):
        """How many whos the way has as it stands."""
        return self.nodes[self.here].depth

    def enter(self, who):
        """Make the way one longer; its node, or a refusal."""
        if self.depth_here() == MOST_DEPTH:
            return FULL
        step = (self.here, who)
        if step not in self.steps:
            if len(self.nodes) == MOST_NODES:
                return FULL
            self.steps[step] = len(self.nodes)
            self.nodes.append(Node(self.here, who, self.depth_here() + 1))
        self.here = self.steps[step]
        return self.here

    def unwind(self, depth):
        """Keep the way's first so many whos; its node, or a refusal."""
        if depth > self.depth_here():
            return NOT_SO_LONG
        while self.depth_here() > depth:
            self.here = self.nodes[self.here].above
        return self.here

    def leave(self):
        """Take the way's last who off; its node, or a refusal."""
        if self.here == 0:
            return NOT_SO_LONG
        return self.unwind(self.depth_here() - 1)

    def find(self, way):
        """The node of a list of whos, or a refusal."""
        k = 0
        for who in way:
            step = (k, who)
            if step not in self.steps:
                return NOT_THERE
            k = self.steps[step]
        return k

    def nodes_up(self, k):
        """The node and those above it, the innermost first, node 0 last."""
        found = [self.nodes[k]]
        while k != 0:
            k = self.nodes[k].above
            found.append(self.nodes[k])
        return found

    def whos(self, k):
        """The whos of a node's way, the outermost first."""
        # node 0 has no who of its own: the last of those above is left out
        found = [node.who for node in self.nodes_up(k)[:-1]]
        found.reverse()
        return found

    def count_made(self, k, size):
        """Note that node k has asked for a piece of this size."""
        self.nodes[k].made_pieces += 1
        self.nodes[k].made_bytes += size
        for node in self.nodes_up(k):
            node.all_made_bytes += size

    def count_live(self, k, more_pieces, more_bytes):
        """Note how many more pieces and bytes of node k live; below 0: fewer."""
        own = self.nodes[k]
        own.live_pieces += more_pieces
        own.live_bytes += more_bytes
        own.peak_bytes = max(own.peak_bytes, own.live_bytes)
        for node in self.nodes_up(k):
            node.all_live_pieces += more_pieces
            node.all_live_bytes += more_bytes

    def sums(self, by):
        """For each node in order that has some: it, and how much."""
        found = []
        for k, node in enumerate(self.nodes):
            much = sum_of(node, by)
            if much > 0:
                found.append((k, much))
        return found

    def most(self, by, k):
        """The k nodes with most, all that have some if there are fewer: each, and how much."""
        # sorted leaves those with as much in their order: the lower number first
        return sorted(self.sums(by), key=lambda pair: -pair[1])[:k]

    def line(self, k, much):
        """A node's line in a text: its way, and how much."""
        way = ";".join([str(who) for who in self.whos(k)])
        return f"{way} {much}\n"

    def text(self, by):
        """A line for each node in order that has some."""
        return "".join([self.line(k, much) for k, much in self.sums(by)])

    def live_sums(self):
        """For each node in order: own live pieces, own live bytes."""
        return [(node.live_pieces, node.live_bytes) for node in self.nodes]

    def changes(self, before):
        """For each node in order whose live sums are others than before: it, pieces more, bytes more."""
        # a node that has come since then had nothing
        then = before + [(0, 0)] * (len(self.nodes) - len(before))
        found = []
        for k, node in enumerate(self.nodes):
            more_pieces = node.live_pieces - then[k][0]
            more_bytes = node.live_bytes - then[k][1]
            if more_pieces != 0 or more_bytes != 0:
                found.append((k, more_pieces, more_bytes))
        return found
