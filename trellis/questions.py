"""Questions about graphs: tuples of a word, the kind, and of parameters."""

from trellis.forms import is_integer, is_tuple, is_vertex
from trellis.graphs import is_graph

KINDS = (
    "connected", "bipartite", "forest", "block", "chordal", "interval", "cograph", "comparability", "permutation",
    "prime", "planar", "outerplanar",
    "degenerate", "indegree", "forests", "trees", "width", "colours", "independent", "matching",
    "linked", "isomorphic",
)

NUMBER_KINDS = ("degenerate", "indegree", "forests", "trees", "width", "colours", "independent", "matching")


def is_question(graph, value):
    """Return whether a value, whatever it is, is a question for a graph."""
    if not isinstance(value, tuple) or value == ():
        return False
    kind = value[0]
    if not isinstance(kind, str) or kind not in KINDS:
        return False
    if kind == "linked":
        return is_tuple(value, 4) and _are_ends(graph, value[1], value[2]) and _is_number(value[3])
    if kind == "isomorphic":
        return is_tuple(value, 2) and is_graph(value[1])
    if kind in NUMBER_KINDS:
        return is_tuple(value, 2) and _is_number(value[1])
    return is_tuple(value, 1)


def _are_ends(graph, s, t):
    n = graph[0]
    return is_vertex(n, s) and is_vertex(n, t) and s != t


def _is_number(value):
    return is_integer(value) and value >= 0
