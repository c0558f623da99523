"""Walks in graphs: distances, paths and cycles."""

from trellis.forms import is_row
from trellis.tables import has, neighbour_lists, neighbour_masks


def distances(graph, v):
    """Return the list of the distances of all vertices from a vertex, -1 where no path leads to."""
    found = [-1] * graph[0]
    # A vertex comes behind the one that it was reached from, so that the distance of that one is known.
    for w, before in reached(neighbour_lists(graph), v).items():
        found[w] = 0 if w == v else found[before] + 1
    return found


def shortest_path(graph, u, v, avoided):
    """Return a shortest path from u to v without the vertices of a list, or None if there is none."""
    around = [[w for w in others if w not in avoided] for others in neighbour_lists(graph)]
    before = reached(around, u)
    return way_to(v, before) if v in before else None


def reached(around, start):
    """Return a dict from each vertex that is reached, nearest ones first, to the one before it, the start to itself.

    The table around tells to which vertices one can go on from each vertex.
    """
    return reached_by(lambda v: around[v], start)


def reached_by(steps, start):
    """Return such a dict for anything, where a function tells the list of all to which one can go on."""
    before = {start: start}
    layer = [start]
    while layer:
        further = []
        for v in layer:
            for w in steps(v):
                if w not in before:
                    before[w] = v
                    further.append(w)
        layer = further
    return before


def way_to(v, before):
    """Return the tuple of the vertices from the start to v, by a dict that tells the vertex before each one."""
    way = [v]
    while before[way[-1]] != way[-1]:
        way.append(before[way[-1]])
    return tuple(way[::-1])


def searched(graph):
    """Return a dict from each vertex to the one before it, each component from its first vertex on."""
    around = neighbour_lists(graph)
    before = {}
    for v in range(graph[0]):
        if v not in before:
            before.update(reached(around, v))
    return before


def found_cycle(graph):
    """Return a cycle, or None if there is none."""
    before = searched(graph)
    for u, v in graph[1]:
        if before[u] != v and before[v] != u:
            return closed_way(before, u, v)
    return None


def closed_way(before, u, v):
    """Return the cycle that an edge closes with the ways to both of its ends, from where these ways part."""
    fork, first, second = parted_ways(before, u, v)
    return (fork, *first, *second[::-1])


def parted_ways(before, u, v):
    """Return the last common vertex of the ways to two vertices, None if there is none, and the rests of both ways."""
    first = way_to(u, before)
    second = way_to(v, before)
    common = [a for a, b in zip(first, second) if a == b]
    fork = common[-1] if common else None
    return fork, first[len(common):], second[len(common):]


def is_path(graph, value):
    """Return whether a value, whatever it is, is a path of a graph."""
    return is_row(graph[0], value) and len(value) >= 1 and _are_steps(graph, value[:-1], value[1:])


def is_cycle(graph, value):
    """Return whether a value, whatever it is, is a cycle of a graph."""
    return is_row(graph[0], value) and len(value) >= 3 and _are_steps(graph, value, value[1:] + value[:1])


def _are_steps(graph, starts, ends):
    around = neighbour_masks(graph)
    return all([has(around[u], v) for u, v in zip(starts, ends)])


def shortest_cycle(graph):
    """Return a cycle with the fewest vertices, or None if there is none."""
    best = None
    for edge in graph[1]:
        found = _shortest_cycle_over(graph, edge)
        if found is not None and (best is None or len(found) < len(best)):
            best = found
    return best


def _shortest_cycle_over(graph, edge):
    """Return a cycle with the fewest vertices of those that go over an edge, or None."""
    n, edges = graph
    u, v = edge
    return shortest_path((n, tuple([other for other in edges if other != edge])), u, v, [])


def is_forest(n, edges):
    """Return whether a list of different edges between n vertices contains no cycle."""
    above = list(range(n))
    sizes = [1] * n
    for u, v in edges:
        low, high = sorted([_top(above, u), _top(above, v)], key=lambda top: sizes[top])
        if low == high:
            return False
        # The smaller tree goes below the larger one, so that no way up gets long.
        above[low] = high
        sizes[high] += sizes[low]
    return True


def _top(above, v):
    while above[v] != v:
        v = above[v]
    return v


def is_spanning_tree(n, edges):
    """Return whether different edges between n vertices are just enough to connect all of these."""
    return len(edges) == n - 1 and is_forest(n, edges)
