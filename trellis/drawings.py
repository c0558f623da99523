"""Drawings of graphs: rotations and their faces; and blocks, the parts that can be drawn one by one."""

from trellis.errors import BadGraph
from trellis.graphs import MOST_VERTICES, components, graph_of
from trellis.tables import neighbour_lists


def faces(graph, rotation):
    """Return the ascending list of the faces of a rotation, each one a tuple of arrows."""
    placed = set()
    found = []
    for arrow in _arrows(graph):
        if arrow not in placed:
            walk = _walk(rotation, arrow)
            for step in walk:
                placed.add(step)
            found.append(tuple(walk))
    return found


def _arrows(graph):
    """Return the ascending list of the arrows of a graph."""
    edges = graph[1]
    return sorted(list(edges) + [(v, u) for u, v in edges])


def _walk(rotation, start):
    """Return the list of the arrows of the face to which an arrow belongs, this one first."""
    walk = [start]
    arrow = _arrow_behind(rotation, start)
    while arrow != start:
        walk.append(arrow)
        arrow = _arrow_behind(rotation, arrow)
    return walk


def _arrow_behind(rotation, arrow):
    u, v = arrow
    around = rotation[v]
    return v, around[(around.index(u) + 1) % len(around)]


def mirrored(rotation):
    """Return the rotation in which each item has the reverse order."""
    return tuple([around[::-1] for around in rotation])


def dual_graph(graph, rotation):
    """Return the graph of the faces of a rotation, which are neighbours where they share an edge."""
    found = faces(graph, rotation)
    if not 1 <= len(found) <= MOST_VERTICES:
        raise BadGraph("there is no face, or there are more than 60")
    side = {arrow: at for at, face in enumerate(found) for arrow in face}
    pairs = [(side[u, v], side[v, u]) for u, v in graph[1]]
    return graph_of(len(found), [(i, j) for i, j in pairs if i != j])


def blocks(graph):
    """Return the ascending list of the blocks, which are sets."""
    search = BlockSearch(neighbour_lists(graph))
    for v in range(graph[0]):
        search.begin(v)
    return sorted(search.found)


class BlockSearch:
    """A walk through a graph that goes on from each vertex to a new one as long as it can, and finds its blocks."""

    def __init__(self, around):
        self.around = around
        self.depth = {}
        self.met = []
        self.found = []

    def begin(self, v):
        """Walk on from a vertex that has not been met."""
        if v not in self.depth:
            self.depth[v] = 0
            self.explore(v)

    def explore(self, v):
        """Walk on from a vertex, and return the least depth of the vertices that it and those behind it see."""
        self.met.append(v)
        least = self.depth[v]
        for w in self.around[v]:
            if w in self.depth:
                least = min(least, self.depth[w])
            else:
                self.depth[w] = self.depth[v] + 1
                seen = self.explore(w)
                least = min(least, seen)
                if seen >= self.depth[v]:
                    self.close(v, w)
        return least

    def close(self, v, w):
        """Make a block of v and what was met from w on, which is not seen from before v."""
        at = self.met.index(w)
        self.found.append(tuple(sorted([v, *self.met[at:]])))
        self.met = self.met[:at]


def _without_edges_of(graph, v):
    n, edges = graph
    return n, tuple([edge for edge in edges if v not in edge])


def cut_vertices(graph):
    """Return the ascending list of the vertices whose removal leaves more components."""
    many = len(components(graph))
    # Without its edges a vertex is still there, as one component more than when it is removed.
    return [v for v in range(graph[0]) if len(components(_without_edges_of(graph, v))) - 1 > many]
