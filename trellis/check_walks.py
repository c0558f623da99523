"""The papers of questions about walks and cuts."""

from trellis.check_sparse import are_few_behind
from trellis.forms import are_edges_of, is_set, is_tuple
from trellis.graphs import edge_of
from trellis.tables import full_mask, has, mask_of, neighbour_masks
from trellis.walks import is_cycle, is_path, is_spanning_tree, shortest_path


def is_walk_paper(graph, question, answer, data):
    """Return whether an answer with data, whatever these are, is a right paper for a question about walks or cuts."""
    match (answer, *question):
        case ("yes", "connected"):
            return are_edges_of(graph, data) and is_spanning_tree(graph[0], data)
        case ("no", "connected"):
            return _is_separation(graph, ((), data))
        case ("yes", "bipartite"):
            return is_set(graph[0], data) and _parts_all_ends(graph, data)
        case ("no", "bipartite"):
            return is_cycle(graph, data) and len(data) % 2 == 1
        case ("yes", "forest"):
            return are_few_behind(graph, 1, data)
        case ("no", "forest"):
            return is_cycle(graph, data)
        case ("yes", "block"):
            return _is_built_of_ears(graph, data)
        case ("no", "block"):
            return _is_separation(graph, data)
        case ("yes", "linked", s, t, k):
            return is_tuple(data, k) and _are_separate_paths(graph, s, t, data)
        case ("no", "linked", s, t, k):
            return is_set(graph[0], data) and _is_cut(graph, s, t, k, data)
    return False


def _is_separation(graph, value):
    """Return whether a value is a pair of a set of at most one vertex and a side that no edge leaves without it."""
    n = graph[0]
    if not is_tuple(value, 2) or not is_set(n, value[0]) or not is_set(n, value[1]):
        return False
    removed, side = value
    if len(removed) > 1 or side == () or mask_of(removed) & mask_of(side) != 0:
        return False
    others = full_mask(n) & ~mask_of(removed) & ~mask_of(side)
    around = neighbour_masks(graph)
    return others != 0 and all([around[v] & others == 0 for v in side])


def _parts_all_ends(graph, side):
    """Return whether each edge has exactly one end in a set."""
    mask = mask_of(side)
    return all([has(mask, u) != has(mask, v) for u, v in graph[1]])


def _is_built_of_ears(graph, value):
    n, edges = graph
    if n <= 2:
        return is_tuple(value, 0) and len(edges) == n - 1
    if not isinstance(value, tuple) or value == () or not is_cycle(graph, value[0]):
        return False
    built = mask_of(value[0])
    for ear in value[1:]:
        if not _is_ear(graph, built, ear):
            return False
        built |= mask_of(ear)
    return built == full_mask(n)


def _is_ear(graph, built, value):
    """Return whether a value is a path of which just the two ends are among the vertices that are there already."""
    if not is_path(graph, value) or len(value) < 2:
        return False
    return mask_of(value) & built == mask_of([value[0], value[-1]])


def _are_separate_paths(graph, s, t, value):
    """Return whether the values in a tuple are different paths from s to t without common inner vertices."""
    if not all([_is_path_between(graph, s, t, path) for path in value]):
        return False
    inner = [v for path in value for v in path[1:-1]]
    return len(set(inner)) == len(inner) and len(set(value)) == len(value)


def _is_path_between(graph, s, t, value):
    return is_path(graph, value) and value[0] == s and value[-1] == t


def _is_cut(graph, s, t, k, members):
    """Return whether a set is small enough and every path from s to t but the edge between them runs through it."""
    n, edges = graph
    direct = edge_of(s, t)
    most = k - 2 if direct in edges else k - 1
    if s in members or t in members or len(members) > most:
        return False
    others = n, tuple([edge for edge in edges if edge != direct])
    return shortest_path(others, s, t, list(members)) is None
