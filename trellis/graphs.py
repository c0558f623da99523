"""Graphs: tuples (n, edges) with the vertices 0 to n - 1 and an ascending tuple of edges."""

from trellis.errors import BadGraph
from trellis.forms import are_edges, is_integer, is_tuple, is_vertex
from trellis.tables import neighbour_lists

MOST_VERTICES = 60


def is_size(value):
    """Return whether a graph may have this number of vertices."""
    return is_integer(value) and 1 <= value <= MOST_VERTICES


def is_graph(value):
    """Return whether a value, whatever it is, is a graph."""
    if not is_tuple(value, 2):
        return False
    n, edges = value
    return is_size(n) and are_edges(n, edges)


def refuse_size(n):
    """Raise BadGraph if no graph has n vertices."""
    if not is_size(n):
        raise BadGraph("a graph has from 1 to 60 vertices")


def made_graph(n, edges):
    """Return the graph with n vertices and the edges of a list of pairs."""
    refuse_size(n)
    for u, v in edges:
        if not is_vertex(n, u) or not is_vertex(n, v):
            raise BadGraph("an edge has an end that is no vertex")
        if u == v:
            raise BadGraph("an edge has equal ends")
    return graph_of(n, edges)


def graph_of(n, pairs):
    """Return the graph of pairs that are known to be right."""
    return n, tuple(sorted({edge_of(u, v) for u, v in pairs}))


def edge_of(u, v):
    """Return the pair of two vertices in the form that it has among the edges."""
    return (u, v) if u < v else (v, u)


def neighbours(graph, v):
    """Return the ascending list of the neighbours of a vertex."""
    edges = graph[1]
    return [a for a, b in edges if b == v] + [b for a, b in edges if a == v]


def are_neighbours(graph, u, v):
    """Return whether two vertices are neighbours."""
    return edge_of(u, v) in graph[1]


def inside(graph, members):
    """Return the number of the edges with both ends in a set."""
    return len(_edges_inside(graph, members))


def _edges_inside(graph, members):
    return [(u, v) for u, v in graph[1] if u in members and v in members]


def components(graph):
    """Return the ascending list of the components, which are sets."""
    around = neighbour_lists(graph)
    placed = set()
    found = []
    for v in range(graph[0]):
        if v not in placed:
            part = _reached(around, v)
            for u in part:
                placed.add(u)
            found.append(tuple(part))
    return found


def _reached(around, start):
    seen = {start}
    waiting = [start]
    while waiting:
        v = waiting.pop()
        for w in around[v]:
            if w not in seen:
                seen.add(w)
                waiting.append(w)
    return sorted(seen)


def is_connected(graph, members):
    """Return whether a set is connected; the empty set is not."""
    return len(components(induced(graph, members))) == 1


def complement(graph):
    """Return the graph in which exactly the other different vertices are neighbours."""
    n, edges = graph
    present = {edge: True for edge in edges}
    return n, tuple([(u, v) for u in range(n) for v in range(u + 1, n) if (u, v) not in present])


def induced(graph, members):
    """Return the graph of a set that is not empty, numbered in ascending order."""
    number = {v: at for at, v in enumerate(members)}
    kept = _edges_inside(graph, members)
    return graph_of(len(members), [(number[u], number[v]) for u, v in kept])


def renamed(graph, order):
    """Return the graph in which each vertex v has the number order[v]."""
    n, edges = graph
    return graph_of(n, [(order[u], order[v]) for u, v in edges])


def beside(first, second):
    """Return the graph of both graphs side by side, the second one behind the first one."""
    n, edges = first
    many = n + second[0]
    if many > MOST_VERTICES:
        raise BadGraph("both graphs have more than 60 vertices together")
    return many, edges + tuple([(n + u, n + v) for u, v in second[1]])
