"""The papers that answer questions about drawings."""

from trellis.check_drawings import FIVE, FOUR, THREE
from trellis.embedding import drawn_rotation
from trellis.tables import neighbour_lists


def drawing_paper(graph, question):
    """Return a right paper for a question about drawings."""
    if question[0] == "planar":
        return _planar_paper(graph)
    return _outerplanar_paper(graph)


def _planar_paper(graph):
    rotation = drawn_rotation(graph)
    if rotation is not None:
        return "yes", rotation
    n, edges = graph
    # So many edges cannot be drawn, whichever they are.
    ways = _ways_between_corners(_least_graph(n, edges[:3 * n - 5], drawn_rotation))
    corners = _corners_of(ways)
    if len(corners) == 5:
        return "no", ("five", corners, _paths(ways, corners, FIVE))
    others = tuple([v for v in corners if (corners[0], v) in ways])
    sides = tuple([v for v in corners if v not in others]) + others
    return "no", ("three", sides, _paths(ways, sides, THREE))


def _outerplanar_paper(graph):
    order = _order_around(graph)
    if order is not None:
        return "yes", order
    n, edges = graph
    least = _least_graph(n, edges[:2 * n - 2], _order_around)
    ways = _ways_between_corners(least)
    corners = _corners_of(ways)
    if len(corners) == 4:
        return "no", ("four", corners, _paths(ways, corners, FOUR))
    start, end = corners
    rows = _ways_from(least, start)
    paths = [row[:2] for row in rows] + [row[:0:-1] for row in rows]
    return "no", ("two", (start, end, *[row[1] for row in rows]), tuple(paths))


def _order_around(graph):
    """Return an order in which the vertices can stand around a circle so that no edges cross, or None.

    In a drawing with one more vertex, a neighbour of all, this is the order of these neighbours around it.
    """
    n, edges = graph
    wheel = n + 1, tuple(sorted(list(edges) + [(v, n) for v in range(n)]))
    rotation = drawn_rotation(wheel)
    return None if rotation is None else rotation[n]


def _least_graph(n, edges, drawing):
    """Return a graph that a function cannot draw, but without any one of its edges."""
    kept = edges
    for edge in edges:
        fewer = tuple([other for other in kept if other != edge])
        if drawing((n, fewer)) is None:
            kept = fewer
    return n, kept


def _ways_between_corners(graph):
    """Return a dict from the ends to each path between vertices with three neighbours or more, over such with two."""
    ways = {}
    for v, others in enumerate(neighbour_lists(graph)):
        if len(others) > 2:
            for way in _ways_from(graph, v):
                ways[v, way[-1]] = way
    return ways


def _ways_from(graph, v):
    """Return the list of the paths that lead from a vertex to others with three neighbours or more."""
    around = neighbour_lists(graph)
    ways = []
    for w in around[v]:
        way = [v, w]
        while len(around[way[-1]]) == 2:
            way.append([u for u in around[way[-1]] if u != way[-2]][0])
        ways.append(tuple(way))
    return ways


def _corners_of(ways):
    return tuple(sorted({v for v, _ in ways}))


def _paths(ways, corners, pairs):
    """Return the tuple of the paths between the corners with pairs of indexes."""
    return tuple([ways[corners[i], corners[j]] for i, j in pairs])
