"""The forms of values: what is asked of a value, whatever it is, before anything else is done with it."""


def is_integer(value):
    """Return whether a value is an integer, which a boolean is not."""
    return isinstance(value, int) and not isinstance(value, bool)


def is_tuple(value, many):
    """Return whether a value is a tuple of so many items."""
    return isinstance(value, tuple) and len(value) == many


def is_headed(value, word, many):
    """Return whether a value is a tuple of so many items, the first of which is a word."""
    # A value of another kind may not even bear to be compared with a word.
    return is_tuple(value, many) and isinstance(value[0], str) and value[0] == word


def is_vertex(n, value):
    """Return whether a value is one of the vertices 0 to n - 1."""
    return is_integer(value) and 0 <= value < n


def are_vertices(n, value):
    """Return whether a value is a tuple of vertices, in any order, which may repeat."""
    return isinstance(value, tuple) and all(is_vertex(n, v) for v in value)


def is_row(n, value):
    """Return whether a value is a tuple of different vertices, in any order."""
    return are_vertices(n, value) and len(set(value)) == len(value)


def is_order(n, value):
    """Return whether a value is a tuple that contains each vertex exactly once."""
    return is_row(n, value) and len(value) == n


def is_set(n, value):
    """Return whether a value is a set: an ascending tuple of vertices."""
    return are_vertices(n, value) and is_ascending(value)


def is_ascending(items):
    """Return whether each item of a tuple is greater than the one before it."""
    return all(items[at] < items[at + 1] for at in range(len(items) - 1))


def is_pair(n, value):
    """Return whether a value is a pair of different vertices."""
    return is_tuple(value, 2) and is_row(n, value)


def is_edge(n, value):
    """Return whether a value is a pair (u, v) of vertices with u < v."""
    return is_tuple(value, 2) and is_set(n, value)


def are_edges(n, value):
    """Return whether a value is an ascending tuple of pairs (u, v) of vertices with u < v."""
    return isinstance(value, tuple) and all(is_edge(n, edge) for edge in value) and is_ascending(value)


def are_edges_of(graph, value):
    """Return whether a value is an ascending tuple of edges of a graph."""
    n, edges = graph
    present = set(edges)
    return are_edges(n, value) and all([edge in present for edge in value])


def is_direction(graph, value):
    """Return whether a value is a tuple with an arrow for each edge of a graph, in the order of the edges."""
    n, edges = graph
    if not is_tuple(value, len(edges)) or not all(is_pair(n, arrow) for arrow in value):
        return False
    return all([arrow == (u, v) or arrow == (v, u) for arrow, (u, v) in zip(value, edges)])
