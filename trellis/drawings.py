"""Drawings of graphs: rotations and their faces; and blocks, the parts that can be drawn one by one."""

from trellis.errors import BadGraph
from trellis.graphs import MOST_VERTICES, components, graph_of, induced


def faces(graph, rotation):
    """Return the ascending list of the faces of a rotation, each one a tuple of arrows."""
    placed = set()
    found = []
    for arrow in _arrows(graph):
        if arrow not in placed:
            walk = _walk(rotation, arrow)
            for step in walk:
                placed.add(step)
            found.append(tuple(walk))
    return found


def _arrows(graph):
    """Return the ascending list of the arrows of a graph."""
    edges = graph[1]
    return sorted(list(edges) + [(v, u) for u, v in edges])


def _walk(rotation, start):
    """Return the list of the arrows of the face to which an arrow belongs, this one first."""
    walk = [start]
    arrow = _arrow_behind(rotation, start)
    while arrow != start:
        walk.append(arrow)
        arrow = _arrow_behind(rotation, arrow)
    return walk


def _arrow_behind(rotation, arrow):
    u, v = arrow
    around = rotation[v]
    return v, around[(around.index(u) + 1) % len(around)]


def mirrored(rotation):
    """Return the rotation in which each item has the reverse order."""
    return tuple([around[::-1] for around in rotation])


def dual_graph(graph, rotation):
    """Return the graph of the faces of a rotation, which are neighbours where they share an edge."""
    found = faces(graph, rotation)
    if not 1 <= len(found) <= MOST_VERTICES:
        raise BadGraph("there is no face, or there are more than 60")
    side = {arrow: at for at, face in enumerate(found) for arrow in face}
    pairs = [(side[u, v], side[v, u]) for u, v in graph[1]]
    return graph_of(len(found), [(i, j) for i, j in pairs if i != j])


def blocks(graph):
    """Return the ascending list of the blocks, which are sets."""
    found = []
    waiting = [part for part in components(graph) if len(part) > 1]
    while waiting:
        members = waiting.pop()
        parts = _parts(graph, members)
        if len(parts) > 1:
            waiting.extend(parts)
        else:
            found.append(members)
    return sorted(found)


def _parts(graph, members):
    """Return the sets into which a connected set falls at one of its vertices, which is in all of them."""
    part = induced(graph, members)
    cuts = cut_vertices(part)
    if not cuts:
        return [members]
    cut = cuts[0]
    sides = [side for side in components(_without_edges_of(part, cut)) if side != (cut,)]
    return [tuple([members[v] for v in sorted([*side, cut])]) for side in sides]


def _without_edges_of(graph, v):
    n, edges = graph
    return n, tuple([edge for edge in edges if v not in edge])


def cut_vertices(graph):
    """Return the ascending list of the vertices whose removal leaves more components."""
    many = len(components(graph))
    # Without its edges a vertex is still there, as one component more than when it is removed.
    return [v for v in range(graph[0]) if len(components(_without_edges_of(graph, v))) - 1 > many]
