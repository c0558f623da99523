"""Pairs of vertices of two graphs that are to be alike."""

from trellis.tables import has, mask_of, neighbour_lists, neighbour_masks, size_of


class Pairing:
    """Two graphs with equally many vertices and edges, and why lists of pairs of their vertices do not fit."""

    def __init__(self, graph, other):
        self.n = graph[0]
        self.around = neighbour_masks(graph)
        self.other_around = neighbour_masks(other)
        self.near = degrees_near(graph)
        self.other_near = degrees_near(other)

    def reason(self, pairs):
        """Return the end of a pairing search for pairs of which only the last one may not fit, or None if it does."""
        if not pairs:
            return None
        v, w = pairs[-1]
        near = self.near[v]
        other_near = self.other_near[w]
        if len(near) != len(other_near):
            return ("degree",)
        for a, b in pairs[:-1]:
            if has(self.around[v], a) != has(self.other_around[w], b):
                return ("clash",)
        for degree in near:
            if near.count(degree) != other_near.count(degree):
                return ("near", degree)
        return None

    def next_vertex(self, pairs):
        """Return a vertex in no pair that has the most neighbours in pairs, and of these, the most at all."""
        paired = mask_of([v for v, _ in pairs])
        left = [v for v in range(self.n) if not has(paired, v)]
        return max(left, key=lambda v: (size_of(self.around[v] & paired), size_of(self.around[v])))

    def further(self, pairs, v):
        """Return the list of the pairs with one more each: v and a vertex in no pair, ascending."""
        paired = mask_of([w for _, w in pairs])
        return [(*pairs, (v, w)) for w in range(self.n) if not has(paired, w)]


def degrees_near(graph):
    """Return a list with the list of the degrees of the neighbours of each vertex."""
    around = neighbour_lists(graph)
    return [[len(around[u]) for u in others] for others in around]
