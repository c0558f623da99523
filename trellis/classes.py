"""Classes of graphs: holes, and the arrows that force each other."""

from trellis.graphs import edge_of
from trellis.tables import full_mask, has, is_clique, mask_of, members_of, neighbour_masks
from trellis.walks import reached_by, shortest_path, way_to


def find_hole(graph):
    """Return a hole, or None if there is none."""
    _, left = clique_order(graph)
    around = neighbour_masks(graph)
    for v in left:
        near = [u for u in left if has(around[v], u)]
        for at, a in enumerate(near):
            for b in near[:at]:
                path = None if has(around[a], b) else _path_past(graph, around, left, v, a, b)
                if path is not None:
                    return (v, *path)
    return None


def _path_past(graph, around, left, v, a, b):
    """Return a shortest path between neighbours of v, over vertices left that are neither v nor its neighbours."""
    allowed = mask_of(left) & ~around[v] & ~(1 << v) | 1 << a | 1 << b
    return shortest_path(graph, a, b, [u for u in range(graph[0]) if not has(allowed, u)])


def clique_order(graph):
    """Return a row of vertices that are taken out one after another, and the set of the vertices left.

    When a vertex is taken out, its neighbours that are still there form a clique, so that it is in no hole with these.
    None of the vertices left can be taken out.
    """
    around = neighbour_masks(graph)
    left = full_mask(graph[0])
    order = []
    v = _tied(around, left)
    while v is not None:
        order.append(v)
        left &= ~(1 << v)
        v = _tied(around, left)
    return tuple(order), members_of(left)


def _tied(around, left):
    """Return the first vertex of a mask whose neighbours in it form a clique, or None."""
    for v in members_of(left):
        if is_clique(around, around[v] & left):
            return v
    return None


def forced_arrows(graph, arrow):
    """Return the ascending list of the arrows that an arrow forces."""
    return forced(neighbour_masks(graph), arrow)


def forced(around, arrow):
    """Return the ascending list of the arrows that an arrow forces, by a table of the masks of neighbours."""
    a, b = arrow
    heads = around[a] & ~around[b] & ~(1 << b)
    tails = around[b] & ~around[a] & ~(1 << a)
    return sorted([(a, c) for c in members_of(heads)] + [(c, b) for c in members_of(tails)])


def forced_on(around, arrow):
    """Return a dict from each arrow to which a chain of forcing leads to the one before it, the first to itself."""
    return reached_by(lambda other: forced(around, other), arrow)


def arrow_classes(graph):
    """Return the ascending list of the classes of arrows, each one ascending."""
    around = neighbour_masks(graph)
    placed = {}
    found = []
    for u in range(graph[0]):
        for v in members_of(around[u]):
            if (u, v) not in placed:
                found.append(tuple(sorted(forced_on(around, (u, v)))))
                for arrow in found[-1]:
                    placed[arrow] = True
    return found


def direction_or_chain(graph):
    """Return a direction that with (u, v) and (v, w) also contains (u, w), or None, and a chain, or None."""
    around = neighbour_masks(graph)
    chain = _chain(graph, around)
    return (_direction(graph, around), None) if chain is None else (None, chain)


def _chain(graph, around):
    seen = {}
    for u, v in graph[1]:
        if (u, v) not in seen:
            before = forced_on(around, (u, v))
            if (v, u) in before:
                return way_to((v, u), before)
            for arrow in before:
                # The reverse of a class without a chain has none, either.
                seen[edge_of(arrow[0], arrow[1])] = True
    return None


def _direction(graph, around):
    """Return such a direction of a graph without a chain: one class after another, each in what the others leave."""
    towards = {}
    left = list(around)
    for u, v in graph[1]:
        if (u, v) not in towards and (v, u) not in towards:
            for a, b in forced_on(left, (u, v)):
                towards[a, b] = True
            left = _without(around, towards)
    return tuple([(u, v) if (u, v) in towards else (v, u) for u, v in graph[1]])


def _without(around, towards):
    """Return the table of the masks of neighbours without the edges that have an arrow."""
    rows = list(around)
    for u, v in towards:
        rows[u] &= ~(1 << v)
        rows[v] &= ~(1 << u)
    return rows
