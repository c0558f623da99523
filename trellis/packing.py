"""The packing of edges into forests."""

from trellis.graphs import edge_of
from trellis.walks import parted_ways, searched, way_to


def packed(graph, many):
    """Return a list of so many forests without common edges that have as many edges as possible, and closed edges.

    The closed edges are those without a place and all that could make place for these: in each forest, the ends of a
    closed edge are joined by closed edges. They are () if each edge has a place.
    """
    n, edges = graph
    places = {}
    parts = _parts(edges, places, many)
    chain, target, closed = _chain(n, edges, parts)
    while chain != ():
        places = _moved(places, chain, target)
        parts = _parts(edges, places, many)
        chain, target, closed = _chain(n, edges, parts)
    return parts, closed


def _parts(edges, places, many):
    """Return the list of the forests, each an ascending tuple of the edges that have their places in it."""
    parts = [[] for _ in range(many)]
    for edge in edges:
        if edge in places:
            parts[places[edge]].append(edge)
    return [tuple(part) for part in parts]


def _chain(n, edges, parts):
    """Return a chain, the index of a forest, and the closed edges; the chain is () if there is none.

    A chain begins with an edge without a place. Each further edge is the next one's way: the one before takes its
    place, and the last one moves to the forest with the index. A shortest chain leaves no cycle in any forest.
    """
    trees = [searched((n, part)) for part in parts]
    placed = {edge: True for part in parts for edge in part}
    before = {edge: edge for edge in edges if edge not in placed}
    waiting = list(before)
    at = 0
    while at < len(waiting):
        edge = waiting[at]
        at += 1
        for target, tree in enumerate(trees):
            in_the_way = _in_the_way(tree, edge)
            if in_the_way is None:
                return way_to(edge, before), target, ()
            for other in in_the_way:
                if other not in before:
                    before[other] = edge
                    waiting.append(other)
    return (), 0, tuple(sorted(before))


def _in_the_way(tree, edge):
    """Return the list of the edges of a forest that join the ends of an edge, or None if there are none.

    The forest is told by a dict from each vertex to the one before it.
    """
    fork, first, second = parted_ways(tree, edge[0], edge[1])
    if fork is None:
        return None
    return [edge_of(v, tree[v]) for v in first + second]


def _moved(places, chain, target):
    """Return the places once each edge of a chain took the place of the next one, and the last one a new one."""
    found = {edge: places[edge] for edge in places}
    found[chain[-1]] = target
    for edge, other in zip(chain, chain[1:]):
        found[edge] = places[other]
    return found
