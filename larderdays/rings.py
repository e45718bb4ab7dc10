"""Rings: the least mean price with which a graph can be gone through for ever.

A graph is a list that has for each node, by its number, a list of links (node that it leads to, price, choice). A
ring is a list of links, each from the node that the one ahead leads to, the first one from where the last one does.
"""

from larderdays.rationals import divided, is_less


def mean_of(ring):
    """Return the mean price of the links of a ring."""
    return divided(sum(price for _, price, _ in ring), len(ring))


def least_ring(graph):
    """Return a tuple: the least mean of a ring, some ring that has it, and the heights of the nodes at this mean.

    None if there is no ring.
    """
    # No ring has a mean as great as this, so that any ring is found first.
    mean = (1 + max([price for links in graph for _, price, _ in links], default=0), 1)
    slopes = Slopes(graph)
    best = None
    ring = slopes.ring_below(mean)
    while ring is not None:
        best = ring
        mean = mean_of(best)
        ring = slopes.ring_below(mean)
    return None if best is None else (mean, best, slopes.heights)


class Slopes:
    """The heights of the nodes of a graph at a mean.

    The weight of a link is its price, times the denominator of the mean, less the numerator. The height of a node
    is the least sum of the weights of links one behind the other from this node on, 0 if it is best to take none.
    """

    def __init__(self, graph):
        self.heights = []
        self._graph = list(graph)
        # For each node the link with which its height was found.
        self._picks = []
        # For each node those from which links lead to it.
        self._before = [[] for _ in graph]
        for node, links in enumerate(graph):
            for link in links:
                self._before[link[0]].append(node)

    def ring_below(self, mean):
        """Return a ring with a lesser mean than this one; None if there is none, and then all heights are found."""
        self.heights = [0] * len(self._graph)
        self._picks = [None] * len(self._graph)
        # Links lead to nodes that are met later, most of the time, so the last ones are best looked at first.
        waiting = list(reversed(range(len(self._graph))))
        while waiting:
            lowered = [node for node in waiting if self._lower(node, mean)]
            # Links that are picked in a ring weigh less than nothing in all: without a ring heights come to an end.
            ring = self._least_picked(lowered)
            if ring is not None:
                return ring
            waiting = list({before: True for node in lowered for before in self._before[node]})
        return None

    def _lower(self, node, mean):
        """Pick the link from a node with the least sum; return whether the node's height is less by it."""
        least = self.heights[node]
        pick = None
        for link in self._graph[node]:
            height = self.heights[link[0]] + link[1] * mean[1] - mean[0]
            if height < least:
                least = height
                pick = link
        if pick is None:
            return False
        self.heights[node] = least
        self._picks[node] = pick
        return True

    def _least_picked(self, starts):
        """Return of the rings of picked links that these nodes lead into one with the least mean, or None."""
        best = None
        seen = {}
        for start in starts:
            node = start
            while node not in seen and self._picks[node] is not None:
                seen[node] = start
                node = self._picks[node][0]
            # Where an earlier start came by, its ring was found already.
            if seen.get(node) == start:
                ring = self._ring_from(node)
                if best is None or is_less(mean_of(ring), mean_of(best)):
                    best = ring
        return best

    def _ring_from(self, node):
        """Return the ring of picked links from a node back to it."""
        ring = [self._picks[node]]
        while ring[-1][0] != node:
            ring.append(self._picks[ring[-1][0]])
        return ring
