"""The papers that answer questions about classes of graphs."""

from trellis.classes import clique_order, direction_or_chain, find_hole
from trellis.graphs import complement
from trellis.tables import full_mask, has, members_of, neighbour_masks, parts_of
from trellis.walks import shortest_path


def class_paper(graph, question):
    """Return a right paper for a question about a class of graphs."""
    match question[0]:
        case "chordal":
            return _chordal_paper(graph)
        case "interval":
            return _interval_paper(graph)
        case "comparability":
            return _comparability_paper(graph)
    return _permutation_paper(graph)


def _chordal_paper(graph):
    order, left = clique_order(graph)
    return ("yes", order) if left == () else ("no", find_hole(graph))


def _comparability_paper(graph):
    direction, chain = direction_or_chain(graph)
    return ("yes", direction) if chain is None else ("no", chain)


def _permutation_paper(graph):
    first, chain = direction_or_chain(graph)
    if chain is not None:
        return "no", ("graph", chain)
    second, chain = direction_or_chain(complement(graph))
    if chain is not None:
        return "no", ("complement", chain)
    turned = [(v, u) for u, v in first]
    return "yes", (_by_arrows(graph[0], [*first, *second]), _by_arrows(graph[0], [*turned, *second]))


def _by_arrows(n, arrows):
    """Return the order in which each arrow between all vertices leads from the one before to the one behind."""
    many = _arrows_to(n, arrows)
    return tuple(sorted(range(n), key=lambda v: many[v]))


def _arrows_to(n, arrows):
    """Return a list that tells how many arrows lead to each vertex."""
    many = [0] * n
    for _, v in arrows:
        many[v] += 1
    return many


def _interval_paper(graph):
    hole = find_hole(graph)
    if hole is not None:
        return "no", ("hole", hole)
    asteroid = _asteroid(graph)
    if asteroid is not None:
        return "no", ("asteroid", *asteroid)
    # Without a hole and an asteroid, the complement has such a direction, and it tells which interval ends first.
    before, _ = direction_or_chain(complement(graph))
    return "yes", _intervals(graph[0], before)


def _intervals(n, before):
    """Return the intervals of which, for each arrow, that of the first vertex ends before that of the second begins.

    An interval begins with the number of those that end before it. These are the same for equal numbers, and more for
    greater ones, so that it may last until just before those begin that it ends before.
    """
    begin = _arrows_to(n, before)
    end = [n] * n
    for u, v in before:
        end[u] = min(end[u], begin[v] - 1)
    return tuple(zip(begin, end))


def _asteroid(graph):
    """Return three vertices and the paths between each two of them that pass by the third one, or None."""
    n = graph[0]
    past = [_parts_past(graph, v) for v in range(n)]
    for a in range(n):
        for b in range(a):
            for c in range(b):
                if has(past[c][a], b) and has(past[a][b], c) and has(past[b][c], a):
                    return a, b, c, _passing(graph, a, b, c), _passing(graph, b, c, a), _passing(graph, c, a, b)
    return None


def _parts_past(graph, v):
    """Return a list that tells for each vertex the mask of those to which paths lead that pass by v, 0 if none."""
    around = neighbour_masks(graph)
    row = [0] * graph[0]
    for part in parts_of(around, full_mask(graph[0]) & ~around[v] & ~(1 << v)):
        for u in members_of(part):
            row[u] = part
    return row


def _passing(graph, start, end, other):
    """Return a path from start to end without another vertex and its neighbours."""
    near = neighbour_masks(graph)[other] | 1 << other
    return shortest_path(graph, start, end, list(members_of(near)))
