"""The papers that answer questions about sparse and dense graphs."""

from trellis.graphs import components, inside
from trellis.packing import packed
from trellis.tables import full_mask, members_of, neighbour_masks, size_of
from trellis.walks import reached, way_to


def sparse_paper(graph, question):
    """Return a right paper for a question about sparse or dense graphs."""
    kind, k = question
    match kind:
        case "degenerate":
            return _degenerate_paper(graph, k)
        case "indegree":
            return _indegree_paper(graph, k)
        case "forests":
            return _forests_paper(graph, k)
    return _trees_paper(graph, k)


def _degenerate_paper(graph, k):
    around = neighbour_masks(graph)
    left = full_mask(graph[0])
    order = []
    v = _loose(around, left, k)
    while v is not None:
        order.append(v)
        left &= ~(1 << v)
        v = _loose(around, left, k)
    return ("yes", tuple(order)) if left == 0 else ("no", members_of(left))


def _loose(around, left, k):
    """Return the first vertex of a mask that has at most k neighbours in it, or None."""
    for v in members_of(left):
        if size_of(around[v] & left) <= k:
            return v
    return None


def _indegree_paper(graph, k):
    n = graph[0]
    direction = list(graph[1])
    tails = _tails(n, direction)
    heavy = [v for v in range(n) if len(tails[v]) > k]
    while heavy:
        before = reached(tails, heavy[0])
        light = [v for v in before if len(tails[v]) < k]
        if not light:
            # No arrow leads to these from elsewhere, so that the arrows that lead to them are edges inside.
            return "no", tuple(sorted(before))
        direction = _turned(direction, way_to(light[0], before))
        tails = _tails(n, direction)
        heavy = [v for v in range(n) if len(tails[v]) > k]
    return "yes", tuple(direction)


def _tails(n, direction):
    """Return a list that tells for each vertex from where arrows lead to it."""
    tails = [[] for _ in range(n)]
    for u, v in direction:
        tails[v].append(u)
    return tails


def _turned(direction, way):
    """Return the direction in which the arrows that lead from each vertex of a way to the one before are turned."""
    turning = {(way[at + 1], way[at]): True for at in range(len(way) - 1)}
    return [(v, u) if (u, v) in turning else (u, v) for u, v in direction]


def _forests_paper(graph, k):
    n, edges = graph
    if len(edges) > k * (n - 1):
        return "no", tuple(range(n))
    # As many forests as there are vertices are always enough.
    parts, closed = packed(graph, min(k, n))
    dense = [part for part in components((n, closed)) if inside(graph, part) > k * (len(part) - 1)]
    return ("no", dense[0]) if dense else ("yes", tuple(parts))


def _trees_paper(graph, k):
    n, edges = graph
    if n == 1:
        return "yes", ()
    if len(edges) < k * (n - 1):
        return "no", tuple([(v,) for v in range(n)])
    parts, closed = packed(graph, k)
    if sum([len(part) for part in parts]) < k * (n - 1):
        return "no", tuple(components((n, closed)))
    return "yes", tuple(parts)
