"""Edits: steps from one graph to the next one, and back."""

from trellis.errors import BadEdit
from trellis.forms import is_vertex
from trellis.graphs import MOST_VERTICES, are_neighbours, edge_of, graph_of, induced, neighbours


def edited(graph, edit):
    """Return the graph after an edit."""
    match edit:
        case ("join", u, v):
            return _joined(graph, u, v)
        case ("part", u, v):
            return _parted(graph, u, v)
        case ("new",):
            return _grown(graph)
        case ("drop", v):
            return _dropped(graph, v)
    raise BadEdit("this is no edit")


def _joined(graph, u, v):
    _refuse_missing(graph, [u, v])
    if u == v or are_neighbours(graph, u, v):
        raise BadEdit("the vertices to join are equal or are neighbours already")
    n, edges = graph
    return graph_of(n, [*edges, (u, v)])


def _parted(graph, u, v):
    _refuse_missing(graph, [u, v])
    if not are_neighbours(graph, u, v):
        raise BadEdit("the vertices to part are no neighbours")
    n, edges = graph
    return n, tuple([edge for edge in edges if edge != edge_of(u, v)])


def _grown(graph):
    n, edges = graph
    if n >= MOST_VERTICES:
        raise BadEdit("there are 60 vertices already")
    return n + 1, edges


def _dropped(graph, v):
    _refuse_missing(graph, [v])
    n = graph[0]
    if n == 1:
        raise BadEdit("the last vertex stays")
    return induced(graph, tuple([u for u in range(n) if u != v]))


def _refuse_missing(graph, ends):
    for v in ends:
        if not is_vertex(graph[0], v):
            raise BadEdit("a vertex does not exist")


def undoing(graph, edit):
    """Return a list of edits that lead from the edited graph back, up to the numbers of the vertices."""
    # Called for its errors: what cannot be done cannot be undone.
    edited(graph, edit)
    match edit:
        case ("join", u, v):
            return [("part", u, v)]
        case ("part", u, v):
            return [("join", u, v)]
        case ("new",):
            return [("drop", graph[0])]
    return _undoing_drop(graph, edit[1])


def _undoing_drop(graph, v):
    new = graph[0] - 1
    return [("new",)] + [("join", _lowered(u, v), new) for u in neighbours(graph, v)]


def _lowered(u, v):
    """Return the number that another vertex u has once v is dropped."""
    return u - 1 if u > v else u
