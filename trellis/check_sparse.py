"""The papers of questions about sparse and dense graphs."""

from trellis.forms import are_edges_of, is_ascending, is_direction, is_order, is_set, is_tuple
from trellis.graphs import inside
from trellis.tables import mask_of, masks_behind, neighbour_masks, size_of
from trellis.walks import is_forest, is_spanning_tree


def is_sparse_paper(graph, question, answer, data):
    """Return whether an answer with data, whatever these are, is a right paper for a question about sparse graphs."""
    match (answer, *question):
        case ("yes", "degenerate", k):
            return are_few_behind(graph, k, data)
        case ("no", "degenerate", k):
            return _is_tight(graph, k, data)
        case ("yes", "indegree", k):
            return is_direction(graph, data) and _most_arrows_to_one(graph, data) <= k
        case ("no", "indegree", k):
            return is_set(graph[0], data) and inside(graph, data) > k * len(data)
        case ("yes", "forests", k):
            return isinstance(data, tuple) and len(data) <= k and _are_forests(graph, data)
        case ("no", "forests", k):
            return is_set(graph[0], data) and data != () and inside(graph, data) > k * (len(data) - 1)
        case ("yes", "trees", k):
            return is_tuple(data, 0 if graph[0] == 1 else k) and _are_separate_trees(graph, data)
        case ("no", "trees", k):
            return _is_partition(graph[0], data) and _edges_between(graph, data) < k * (len(data) - 1)
    return False


def are_few_behind(graph, k, value):
    """Return whether a value is an order in which each vertex has at most k neighbours behind it."""
    return is_order(graph[0], value) and all([size_of(mask) <= k for mask in masks_behind(graph, value)])


def _is_tight(graph, k, value):
    """Return whether a value is a set that is not empty, in which each vertex has more than k neighbours."""
    if not is_set(graph[0], value) or value == ():
        return False
    around = neighbour_masks(graph)
    return all([size_of(around[v] & mask_of(value)) > k for v in value])


def _most_arrows_to_one(graph, direction):
    many = [0] * graph[0]
    for _, v in direction:
        many[v] += 1
    return max(many)


def _are_forests(graph, parts):
    """Return whether the values in a tuple are forests that contain every edge exactly once together."""
    if not all([are_edges_of(graph, part) and is_forest(graph[0], part) for part in parts]):
        return False
    return sorted([edge for part in parts for edge in part]) == list(graph[1])


def _are_separate_trees(graph, parts):
    """Return whether the values in a tuple are sets of edges without common ones that connect all vertices each."""
    if not all([are_edges_of(graph, part) and is_spanning_tree(graph[0], part) for part in parts]):
        return False
    used = [edge for part in parts for edge in part]
    return len(set(used)) == len(used)


def _is_partition(n, value):
    """Return whether a value is an ascending tuple of sets, none of them empty, that contain each vertex once."""
    if not isinstance(value, tuple) or not all(is_set(n, members) and members != () for members in value):
        return False
    return is_ascending(value) and sorted([v for members in value for v in members]) == list(range(n))


def _edges_between(graph, partition):
    """Return the number of the edges with their ends in different sets."""
    return len(graph[1]) - sum([inside(graph, members) for members in partition])
