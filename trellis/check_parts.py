"""The papers of questions about modules and about bags."""

from trellis.bags import is_bramble, is_decomposition, width_of
from trellis.forms import is_row, is_set, is_tuple
from trellis.graphs import are_neighbours
from trellis.hitting import mask_within
from trellis.modules import is_module, is_tree, tree_graph
from trellis.tables import mask_of, neighbour_masks
from trellis.walks import is_path


def is_part_paper(graph, question, answer, data):
    """Return whether an answer with data, whatever these are, is a right paper for a question about modules or bags."""
    match (answer, *question):
        case ("yes", "cograph"):
            return is_tree(graph[0], data) and tree_graph(graph[0], data) == graph
        case ("no", "cograph"):
            return is_path(graph, data) and len(data) == 4 and _has_no_shortcut(graph, data)
        case ("yes", "prime"):
            return _are_all_split(graph, data)
        case ("no", "prime"):
            return is_set(graph[0], data) and 2 <= len(data) < graph[0] and is_module(graph, data)
        case ("yes", "width", k):
            return is_decomposition(graph, data) and width_of(data) <= k
        case ("no", "width", k):
            return is_bramble(graph, data) and mask_within([mask_of(members) for members in data], k + 1) is None
    return False


def _has_no_shortcut(graph, path):
    """Return whether no other two vertices of a path of four are neighbours than those next to each other."""
    a, b, c, d = path
    return not any([are_neighbours(graph, u, v) for u, v in [(a, c), (a, d), (b, d)]])


def _are_all_split(graph, value):
    """Return whether a value tells for each pair of vertices, in order, how any module around them takes in all."""
    n = graph[0]
    pairs = [(u, v) for u in range(n) for v in range(u + 1, n)]
    around = neighbour_masks(graph)
    return is_tuple(value, len(pairs)) and all([_takes_in_all(around, pair, row) for pair, row in zip(pairs, value)])


def _takes_in_all(around, pair, row):
    """Return whether a row contains all other vertices, each one with neighbours before it, but not only those."""
    n = len(around)
    mask = mask_of(pair)
    if not is_row(n, row) or len(row) != n - 2 or mask_of(row) & mask != 0:
        return False
    for v in row:
        near = around[v] & mask
        if near == 0 or near == mask:
            return False
        mask |= 1 << v
    return True
