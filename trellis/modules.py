"""Modules of graphs, and trees of vertices."""

from trellis.errors import BadGraph
from trellis.forms import is_integer, is_vertex
from trellis.graphs import complement, graph_of, is_size
from trellis.tables import full_mask, mask_of, members_of, neighbour_masks, parts_of

UNION = "union"
JOIN = "join"
PRIME = "prime"


def is_module(graph, members):
    """Return whether a set is a module."""
    mask = mask_of(members)
    return mask != 0 and _least(neighbour_masks(graph), full_mask(graph[0]), mask) == mask


def least_module(graph, members):
    """Return the least module that contains a set that is not empty."""
    return members_of(_least(neighbour_masks(graph), full_mask(graph[0]), mask_of(members)))


def _least(around, whole, mask):
    """Return the least mask around a given one of which each other vertex of the whole sees all vertices or none."""
    parting = _parting(around, whole, mask)
    while parting != 0:
        mask |= parting
        parting = _parting(around, whole, mask)
    return mask


def _parting(around, whole, mask):
    """Return the mask of those other vertices of the whole that are neighbours of some but not all in a mask."""
    some = 0
    every = whole
    for v in members_of(mask):
        some |= around[v]
        every &= around[v]
    return some & ~every & whole & ~mask


def strong_modules(graph):
    """Return the ascending list of the strong modules."""
    tables = _both_tables(graph)
    found = []
    waiting = [full_mask(graph[0])]
    while waiting:
        mask = waiting.pop()
        found.append(members_of(mask))
        waiting.extend(_largest_inside(tables, mask)[1])
    return sorted(found)


def module_tree(graph):
    """Return the tree of vertices in which a node stands for the strong module of the vertices in it."""
    return _tree(_both_tables(graph), full_mask(graph[0]))


def _tree(tables, mask):
    word, parts = _largest_inside(tables, mask)
    if not parts:
        return members_of(mask)[0]
    return (word, *[_tree(tables, part) for part in parts])


def _both_tables(graph):
    return neighbour_masks(graph), neighbour_masks(complement(graph))


def _largest_inside(tables, mask):
    """Return the word of a strong module and the list of the largest strong modules in it, by their least vertices."""
    if len(members_of(mask)) == 1:
        return PRIME, []
    around, opposite = tables
    parts = parts_of(around, mask)
    if len(parts) > 1:
        return UNION, parts
    parts = parts_of(opposite, mask)
    if len(parts) > 1:
        return JOIN, parts
    return PRIME, _prime_parts(around, mask)


def _prime_parts(around, mask):
    """Return the list of the largest modules other than all in a set that is connected, as its complement is."""
    parts = []
    left = mask
    while left != 0:
        first = left & -left
        # In such a set two vertices are in a common part exactly if some module but the whole one contains both.
        near = [v for v in members_of(left) if _least(around, mask, first | 1 << v) != mask]
        parts.append(mask_of(near))
        left &= ~parts[-1]
    return parts


def tree_graph(n, tree):
    """Return the graph in which vertices are neighbours if the innermost node around both has the word join."""
    if not is_size(n) or not is_tree(n, tree):
        raise BadGraph("the tree does not contain each vertex of a graph exactly once")
    return graph_of(n, _vertices_and_pairs(tree)[1])


def is_tree(n, value):
    """Return whether a value, whatever it is, is a tree of unions and joins that has each vertex exactly once."""
    seen = set()
    waiting = [value]
    while waiting:
        part = waiting.pop()
        if _is_node(part):
            waiting.extend(part[1:])
        elif is_vertex(n, part) and part not in seen:
            seen.add(part)
        else:
            return False
    return len(seen) == n


def _is_node(value):
    if not isinstance(value, tuple) or len(value) < 3 or not isinstance(value[0], str):
        return False
    return value[0] == UNION or value[0] == JOIN


def _vertices_and_pairs(tree):
    """Return the list of the vertices of a tree and that of the pairs that a join makes neighbours."""
    if is_integer(tree):
        return [tree], []
    vertices = []
    pairs = []
    for part in tree[1:]:
        further, inner = _vertices_and_pairs(part)
        pairs.extend(inner)
        if tree[0] == JOIN:
            pairs.extend([(u, v) for u in vertices for v in further])
        vertices.extend(further)
    return vertices, pairs
