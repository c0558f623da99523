"""The papers of questions about drawings."""

from trellis.drawings import faces
from trellis.forms import is_headed, is_order, is_row, is_tuple
from trellis.graphs import components, inside
from trellis.tables import neighbour_lists
from trellis.walks import is_path

# The pairs of the indexes of the corners that paths join.
FIVE = ((0, 1), (0, 2), (0, 3), (0, 4), (1, 2), (1, 3), (1, 4), (2, 3), (2, 4), (3, 4))
THREE = ((0, 3), (0, 4), (0, 5), (1, 3), (1, 4), (1, 5), (2, 3), (2, 4), (2, 5))
FOUR = ((0, 1), (0, 2), (0, 3), (1, 2), (1, 3), (2, 3))
TWO = ((0, 2), (0, 3), (0, 4), (1, 2), (1, 3), (1, 4))


def is_drawing_paper(graph, question, answer, data):
    """Return whether an answer with data, whatever these are, is a right paper for a question about drawings."""
    match (answer, *question):
        case ("yes", "planar"):
            return _is_rotation(graph, data) and _is_plane(graph, data)
        case ("no", "planar"):
            return _contains(graph, "five", 5, FIVE, data) or _contains(graph, "three", 6, THREE, data)
        case ("yes", "outerplanar"):
            return is_order(graph[0], data) and not _do_edges_cross(graph, data)
        case ("no", "outerplanar"):
            return _contains(graph, "four", 4, FOUR, data) or _contains(graph, "two", 5, TWO, data)
    return False


def _is_rotation(graph, value):
    n = graph[0]
    if not is_tuple(value, n) or not all(is_row(n, row) for row in value):
        return False
    return [sorted(row) for row in value] == neighbour_lists(graph)


def _is_plane(graph, rotation):
    """Return whether each component with an edge has as many faces as in a drawing without crossings."""
    starts = [face[0][0] for face in faces(graph, rotation)]
    return all([_is_part_plane(graph, starts, part) for part in components(graph) if len(part) > 1])


def _is_part_plane(graph, starts, part):
    many = len([v for v in starts if v in part])
    return len(part) - inside(graph, part) + many == 2


def _do_edges_cross(graph, order):
    """Return whether two edges cross if the vertices stand around a circle in an order."""
    place = {v: at for at, v in enumerate(order)}
    chords = [sorted([place[u], place[v]]) for u, v in graph[1]]
    for i, first in enumerate(chords):
        for second in chords[:i]:
            if _cross(first, second) or _cross(second, first):
                return True
    return False


def _cross(first, second):
    a, c = first
    b, d = second
    return a < b < c < d


def _contains(graph, word, many, pairs, value):
    """Return whether a value has a word, so many corners, and for each pair of these a path on its own in a graph."""
    if not is_headed(value, word, 3) or not is_tuple(value[2], len(pairs)):
        return False
    _, corners, paths = value
    if not is_row(graph[0], corners) or len(corners) != many:
        return False
    ends = [(corners[i], corners[j]) for i, j in pairs]
    if not all([_joins(graph, end, path) for end, path in zip(ends, paths)]):
        return False
    # No vertex is used twice: an inner vertex is neither a corner nor in another path.
    used = list(corners) + [v for path in paths for v in path[1:-1]]
    return len(set(used)) == len(used)


def _joins(graph, ends, path):
    return is_path(graph, path) and path[0] == ends[0] and path[-1] == ends[1]
