"""The papers of questions about classes of graphs."""

from trellis.forms import is_direction, is_headed, is_integer, is_order, is_pair, is_tuple, is_vertex
from trellis.graphs import complement
from trellis.tables import has, is_clique, is_within, mask_of, masks_behind, neighbour_masks, size_of
from trellis.walks import is_cycle, is_path


def is_class_paper(graph, question, answer, data):
    """Return whether an answer with data, whatever these are, is a right paper for a question about a class."""
    match (answer, *question):
        case ("yes", "chordal"):
            return _are_cliques_behind(graph, data)
        case ("no", "chordal"):
            return _is_hole(graph, data)
        case ("yes", "interval"):
            return is_tuple(data, graph[0]) and all(_is_interval(item) for item in data) and _meet_right(graph, data)
        case ("no", "interval"):
            return is_headed(data, "hole", 2) and _is_hole(graph, data[1]) or _is_asteroid(graph, data)
        case ("yes", "comparability"):
            return is_direction(graph, data) and _leads_on(graph, data)
        case ("no", "comparability"):
            return _is_chain(graph, data)
        case ("yes", "permutation"):
            return is_tuple(data, 2) and all(is_order(graph[0], order) for order in data) and _differ_right(graph, data)
        case ("no", "permutation"):
            return _is_chain_of_either(graph, data)
    return False


def _are_cliques_behind(graph, value):
    """Return whether a value is an order in which the neighbours behind each vertex form a clique."""
    if not is_order(graph[0], value):
        return False
    around = neighbour_masks(graph)
    return all([is_clique(around, mask) for mask in masks_behind(graph, value)])


def _is_hole(graph, value):
    """Return whether a value is a cycle of four or more vertices, neighbours only where next to each other in it."""
    if not is_cycle(graph, value) or len(value) < 4:
        return False
    around = neighbour_masks(graph)
    return all([size_of(around[v] & mask_of(value)) == 2 for v in value])


def _is_interval(value):
    return is_tuple(value, 2) and is_integer(value[0]) and is_integer(value[1]) and value[0] <= value[1]


def _meet_right(graph, intervals):
    """Return whether exactly the intervals of neighbours meet."""
    around = neighbour_masks(graph)
    pairs = [(u, v) for u in range(graph[0]) for v in range(u)]
    return all([has(around[u], v) == _meet(intervals[u], intervals[v]) for u, v in pairs])


def _meet(first, second):
    return first[0] <= second[1] and second[0] <= first[1]


def _is_asteroid(graph, value):
    if not is_headed(value, "asteroid", 7):
        return False
    _, a, b, c, p, q, r = value
    return _leads_past(graph, a, b, c, p) and _leads_past(graph, b, c, a, q) and _leads_past(graph, c, a, b, r)


def _leads_past(graph, start, end, other, path):
    """Return whether a path leads from start to end, and none of its vertices is another vertex or its neighbour."""
    if not is_path(graph, path) or not is_vertex(graph[0], other):
        return False
    if not is_vertex(graph[0], start) or not is_vertex(graph[0], end) or path[0] != start or path[-1] != end:
        return False
    near = neighbour_masks(graph)[other] | 1 << other
    return mask_of(path) & near == 0


def _leads_on(graph, direction):
    """Return whether a direction with any two arrows (u, v) and (v, w) contains (u, w)."""
    ahead = [0] * graph[0]
    for u, v in direction:
        ahead[u] |= 1 << v
    return all([is_within(ahead[v], ahead[u]) for u, v in direction])


def _is_chain(graph, value):
    """Return whether a value is a tuple of arrows in which each one forces the next one, from one to its reverse."""
    n = graph[0]
    if not isinstance(value, tuple) or len(value) < 2 or not all(is_pair(n, arrow) for arrow in value):
        return False
    around = neighbour_masks(graph)
    if not all([has(around[a], b) for a, b in value]) or value[-1] != value[0][::-1]:
        return False
    return all([_forces(around, value[at], value[at + 1]) for at in range(len(value) - 1)])


def _forces(around, arrow, forced):
    a, b = arrow
    c, d = forced
    if a == c:
        return b != d and not has(around[b], d)
    return b == d and not has(around[a], c)


def _is_chain_of_either(graph, value):
    """Return whether a value is a chain of the graph or of its complement, with the word that tells which."""
    if is_headed(value, "graph", 2):
        return _is_chain(graph, value[1])
    return is_headed(value, "complement", 2) and _is_chain(complement(graph), value[1])


def _differ_right(graph, orders):
    """Return whether exactly the neighbours stand in a different order in both of two orders."""
    around = neighbour_masks(graph)
    first, second = [{v: at for at, v in enumerate(order)} for order in orders]
    pairs = [(u, v) for u in range(graph[0]) for v in range(u)]
    return all([has(around[u], v) == ((first[u] < first[v]) != (second[u] < second[v])) for u, v in pairs])
