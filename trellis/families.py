"""Some graphs."""

from trellis.errors import BadGraph
from trellis.graphs import complement, made_graph, refuse_size


def path_graph(n):
    """Return the graph with the edges between i and i + 1."""
    # The size is looked at first, here and below, because a list of edges of any size may be large.
    refuse_size(n)
    return made_graph(n, _steps(n))


def _steps(n):
    return [(i, i + 1) for i in range(n - 1)]


def cycle_graph(n):
    """Return the graph with the edges of a path and one more between its ends."""
    refuse_size(n)
    if n < 3:
        raise BadGraph("a cycle has at least three vertices")
    return made_graph(n, [*_steps(n), (0, n - 1)])


def full_graph(n):
    """Return the graph with all edges."""
    return complement(made_graph(n, []))


def two_sided(a, b):
    """Return the graph with an edge between each of the first a and each of the last b vertices."""
    refuse_size(a + b)
    return made_graph(a + b, [(i, a + j) for i in range(a) for j in range(b)])


def grid_graph(rows, columns):
    """Return the graph of a grid, in which the vertex i * columns + j stands in row i and column j."""
    refuse_size(rows * columns)
    across = [(i * columns + j, i * columns + j + 1) for i in range(rows) for j in range(columns - 1)]
    down = [(i * columns + j, (i + 1) * columns + j) for i in range(rows - 1) for j in range(columns)]
    return made_graph(rows * columns, across + down)
