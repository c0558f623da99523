"""Largest matchings, and the sets that show that no matching is larger."""

from trellis.tables import mask_of, members_of, near_of, neighbour_lists, neighbour_masks


def largest_matching(graph):
    """Return an ascending tuple of edges that is a matching, as many as possible."""
    mates = _mates(graph)
    return tuple([(u, v) for u, v in enumerate(mates) if v is not None and u < v])


def barrier(graph):
    """Return a set S of p vertices that leaves q odd components, with (n + p - q) // 2 edges in a largest matching.

    It is the set of the neighbours of the vertices that some largest matching leaves out. These are reached from the
    vertices that the one found leaves out, by an even number of steps, every other one of which is in the matching.
    """
    mates = _mates(graph)
    spare = {}
    for v, mate in enumerate(mates):
        if mate is None:
            search = MateSearch(neighbour_lists(graph), mates, v)
            search.run()
            spare.update(search.outer)
    mask = mask_of(list(spare))
    return members_of(near_of(neighbour_masks(graph), mask) & ~mask)


def _mates(graph):
    """Return a list with the other end of the edge of a largest matching for each vertex, or None."""
    around = neighbour_lists(graph)
    mates = [None] * graph[0]
    for v in range(graph[0]):
        if mates[v] is None:
            search = MateSearch(around, mates, v)
            mates = search.mates_after(search.run())
    return mates


class MateSearch:
    """A search from a vertex without a mate for another one, over steps of which every other one is in the matching.

    Outer vertices are reached by an even number of steps, the others from an outer one. An odd cycle of steps makes
    all its vertices outer; they have a common base, the vertex from which the cycle was reached.
    """

    def __init__(self, around, mates, root):
        self.around = around
        self.mates = mates
        self.before = {}
        self.base = list(range(len(around)))
        self.outer = {root: True}
        self.waiting = [root]

    def run(self):
        """Return a vertex without a mate that was reached, or None if there is none."""
        while self.waiting:
            v = self.waiting.pop(0)
            for w in self.around[v]:
                if self.is_new(v, w) and self.reach(v, w):
                    return w
        return None

    def is_new(self, v, w):
        """Return whether a step leads out of a cycle, and not back to the mate."""
        return self.base[v] != self.base[w] and self.mates[v] != w

    def reach(self, v, w):
        """Take a step from an outer vertex, and return whether it leads to another one without a mate."""
        if w in self.outer:
            self.shrink(v, w)
        elif w not in self.before:
            self.before[w] = v
            if self.mates[w] is None:
                return True
            self.make_outer(self.mates[w])
        return False

    def make_outer(self, v):
        """Go on from a vertex later, too."""
        if v not in self.outer:
            self.outer[v] = True
            self.waiting.append(v)

    def shrink(self, v, w):
        """Give a common base to the cycle that a step between outer vertices closes."""
        bottom = self.common_base(v, w)
        bases = self.lead_back(v, w, bottom) + self.lead_back(w, v, bottom)
        inner = [u for u, base in enumerate(self.base) if base in bases]
        for u in inner:
            self.base[u] = bottom
            self.make_outer(u)

    def common_base(self, v, w):
        """Return the first base that the ways back from two outer vertices have in common."""
        bases = {base: True for base in self.bases_back(v)}
        return [base for base in self.bases_back(w) if base in bases][0]

    def bases_back(self, v):
        """Return the list of the bases on the way back from an outer vertex."""
        bases = [self.base[v]]
        while self.mates[bases[-1]] is not None:
            bases.append(self.base[self.before[self.mates[bases[-1]]]])
        return bases

    def lead_back(self, v, w, bottom):
        """Let the vertices on the way from v back to a base lead to w, and return the list of the bases before it."""
        bases = []
        while self.base[v] != bottom:
            mate = self.mates[v]
            bases.extend([self.base[v], self.base[mate]])
            self.before[v] = w
            w = mate
            v = self.before[mate]
        return bases

    def mates_after(self, end):
        """Return the list of the mates after the search, with the way to a vertex that it reached, if it did."""
        mates = list(self.mates)
        while end is not None:
            v = self.before[end]
            further = mates[v]
            mates[v] = end
            mates[end] = v
            end = further
        return mates
