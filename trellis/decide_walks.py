"""The papers that answer questions about walks and cuts."""

from trellis.disjoint import disjoint_paths
from trellis.drawings import cut_vertices
from trellis.graphs import are_neighbours, components, edge_of
from trellis.tables import full_mask, members_of, neighbour_lists, neighbour_masks, parts_of
from trellis.walks import closed_way, found_cycle, reached, searched, way_to


def walk_paper(graph, question):
    """Return a right paper for a question about walks or cuts."""
    match question[0]:
        case "connected":
            return _connected_paper(graph)
        case "bipartite":
            return _bipartite_paper(graph)
        case "forest":
            return _forest_paper(graph)
        case "block":
            return _block_paper(graph)
    _, s, t, k = question
    return _linked_paper(graph, s, t, k)


def _connected_paper(graph):
    parts = components(graph)
    if len(parts) > 1:
        return "no", parts[0]
    return "yes", tuple(sorted([edge_of(u, v) for v, u in searched(graph).items() if u != v]))


def _bipartite_paper(graph):
    before = searched(graph)
    side = {}
    for v, u in before.items():
        side[v] = u == v or not side[u]
    for u, v in graph[1]:
        if side[u] == side[v]:
            return "no", closed_way(before, u, v)
    return "yes", tuple([v for v in range(graph[0]) if side[v]])


def _forest_paper(graph):
    cycle = found_cycle(graph)
    if cycle is not None:
        return "no", cycle
    # Behind each vertex stands at most one neighbour: the one that it was reached from.
    return "yes", tuple(list(searched(graph))[::-1])


def _block_paper(graph):
    n = graph[0]
    parts = components(graph)
    if len(parts) > 1:
        return "no", ((), parts[0])
    cuts = cut_vertices(graph)
    if cuts:
        sides = parts_of(neighbour_masks(graph), full_mask(n) & ~(1 << cuts[0]))
        return "no", ((cuts[0],), members_of(sides[0]))
    return "yes", () if n <= 2 else _ears(graph)


def _ears(graph):
    """Return ears with all vertices of a graph that no single vertex separates."""
    around = neighbour_lists(graph)
    ears = [found_cycle(graph)]
    built = list(ears[0])
    while len(built) < graph[0]:
        ears.append(_next_ear(around, built))
        built.extend(ears[-1][1:-1])
    return tuple(ears)


def _next_ear(around, built):
    """Return a path between different vertices that are built whose inner vertices, at least one, are not."""
    start, first = _step_out(around, built)
    # From what is built one does not go on, and the way does not lead back to its start.
    ways = [[] if v in built else [w for w in others if w != start] for v, others in enumerate(around)]
    before = reached(ways, first)
    ends = [v for v in before if v in built]
    return (start, *way_to(ends[0], before))


def _step_out(around, built):
    """Return a vertex that is built and a neighbour that is not; there is one, since the graph is connected."""
    for v in built:
        for w in around[v]:
            if w not in built:
                return v, w
    return None


def _linked_paper(graph, s, t, k):
    n, edges = graph
    direct = [(s, t)] if are_neighbours(graph, s, t) else []
    others = n, tuple([edge for edge in edges if edge != edge_of(s, t)])
    paths, cut = disjoint_paths(others, s, t, k - len(direct))
    if len(direct) + len(paths) >= k:
        return "yes", tuple((direct + paths)[:k])
    return "no", cut
