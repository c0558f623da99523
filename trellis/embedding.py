"""The search for drawings without crossing edges: blocks are drawn path by path.

A face is a tuple of vertices here, in the order in which one goes around it.
"""

from trellis.drawings import blocks
from trellis.graphs import induced
from trellis.tables import full_mask, has, is_within, joined, mask_of, members_of, near_of, neighbour_masks, parts_of
from trellis.walks import found_cycle, reached, way_to


def drawn_rotation(graph):
    """Return the rotation of a drawing without crossing edges, or None if there is none."""
    rows = [[] for _ in range(graph[0])]
    for members in blocks(graph):
        items = _rotation_of_block(induced(graph, members))
        if items is None:
            return None
        for v, item in zip(members, items):
            rows[v].extend([members[u] for u in item])
    return tuple([tuple(row) for row in rows])


def _rotation_of_block(graph):
    n, edges = graph
    if n == 2:
        return [[1], [0]]
    # A drawing has no more edges than this.
    found = drawn_faces(graph) if len(edges) <= 3 * n - 6 else None
    return None if found is None else _rotation_of_faces(n, found)


def _rotation_of_faces(n, found):
    after = {}
    for face in found:
        for at, v in enumerate(face):
            # Coming from the vertex before, one goes on to the one behind.
            after[v, face[at - 1]] = face[(at + 1) % len(face)]
    return [_row_around(v, n, after) for v in range(n)]


def _row_around(v, n, after):
    """Return the row of the neighbours around v, by a dict that tells which one stands behind each."""
    first = [u for u in range(n) if (v, u) in after][0]
    row = [first]
    while after[v, row[-1]] != first:
        row.append(after[v, row[-1]])
    return row


def drawn_faces(graph):
    """Return the list of the faces of a drawing of a block of at least three vertices, or None if there is none."""
    around = neighbour_masks(graph)
    cycle = found_cycle(graph)
    faces = [cycle, cycle[::-1]]
    drawn = _drawn_along([0] * graph[0], [*cycle, cycle[0]])
    piece, at = _next_piece(graph, around, drawn, faces)
    while piece is not None:
        if at is None:
            return None
        path = _path_through(around, piece)
        faces = faces[:at] + _parted(faces[at], path) + faces[at + 1:]
        drawn = _drawn_along(drawn, path)
        piece, at = _next_piece(graph, around, drawn, faces)
    return faces


def _drawn_along(drawn, row):
    """Return the table of the masks of drawn neighbours with the edges between each item of a row and the next one."""
    for u, v in zip(row, row[1:]):
        drawn = joined(drawn, u, v)
    return drawn


def _next_piece(graph, around, drawn, faces):
    """Return the piece that fits the fewest faces, and the index of a face that it fits; None where there is none."""
    masks = [mask_of(face) for face in faces]
    best = None
    fewest = len(faces) + 1
    place = None
    for piece in _pieces(graph, around, drawn):
        fitting = [at for at, mask in enumerate(masks) if is_within(piece[0], mask)]
        if len(fitting) < fewest:
            best = piece
            fewest = len(fitting)
            place = fitting[0] if fitting else None
    return best, place


def _pieces(graph, around, drawn):
    """Return the list of the pieces that are not drawn yet: pairs of the masks of the ends and of what lies between.

    A piece is an edge between drawn vertices, or a connected part of the others with all drawn neighbours.
    """
    n, edges = graph
    built = mask_of([v for v in range(n) if drawn[v] != 0])
    ends = [mask_of((u, v)) for u, v in edges if not has(drawn[u], v)]
    single = [(mask, 0) for mask in ends if is_within(mask, built)]
    return single + [(near_of(around, part) & built, part) for part in parts_of(around, full_mask(n) & ~built)]


def _path_through(around, piece):
    """Return a path through a piece between two of its ends."""
    ends, part = piece
    start, goal = members_of(ends)[:2]
    if part == 0:
        return start, goal
    ways = []
    for v, row in enumerate(around):
        ways.append(list(members_of(row & part if v == start else row & (part | 1 << goal))))
    return way_to(goal, reached(ways, start))


def _parted(face, path):
    """Return the list of the two faces into which a path parts a face."""
    at = face.index(path[0])
    turned = face[at:] + face[:at]
    end = turned.index(path[-1])
    return [turned[:end + 1] + path[-2:0:-1], turned[end:] + path[:-1]]
