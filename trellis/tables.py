"""Tables of the neighbours of all vertices, and masks: integers that stand for sets, with a bit for each vertex."""


def neighbour_lists(graph):
    """Return a list with the ascending list of neighbours of each vertex."""
    n, edges = graph
    around = [[] for _ in range(n)]
    for u, v in edges:
        around[u].append(v)
        around[v].append(u)
    return around


def neighbour_masks(graph):
    """Return a list with the mask of the neighbours of each vertex."""
    return [mask_of(others) for others in neighbour_lists(graph)]


def masks_behind(graph, order):
    """Return a list with the mask of the neighbours behind each vertex of an order, in this order."""
    around = neighbour_masks(graph)
    left = mask_of(order)
    behind = []
    for v in order:
        left &= ~(1 << v)
        behind.append(around[v] & left)
    return behind


def is_clique(around, mask):
    """Return whether the vertices of a mask are pairwise neighbours, by a table of the masks of neighbours."""
    return all([is_within(mask, around[v] | 1 << v) for v in members_of(mask)])


def mask_of(members):
    """Return the mask of vertices."""
    mask = 0
    for v in members:
        mask |= 1 << v
    return mask


def members_of(mask):
    """Return the set that a mask stands for."""
    found = []
    while mask > 0:
        low = mask & -mask
        found.append(low.bit_length() - 1)
        mask ^= low
    return tuple(found)


def size_of(mask):
    """Return the number of vertices that a mask stands for."""
    return f"{mask:b}".count("1")


def first_of(mask):
    """Return the least vertex of a mask that is not empty."""
    return (mask & -mask).bit_length() - 1


def near_of(around, mask):
    """Return the mask of the neighbours of the vertices of a mask, by a table of the masks of neighbours."""
    near = 0
    for v in members_of(mask):
        near |= around[v]
    return near


def parts_of(around, mask):
    """Return the list of the masks of the components of a mask, by their least vertices."""
    parts = []
    while mask != 0:
        part = _connected_to(around, mask)
        parts.append(part)
        mask &= ~part
    return parts


def _connected_to(around, mask):
    """Return the component of a mask that contains its least vertex."""
    fresh = mask & -mask
    seen = fresh
    while fresh != 0:
        fresh = near_of(around, fresh) & mask & ~seen
        seen |= fresh
    return seen


def merged(around, u, v):
    """Return the table of the masks of neighbours in which u got those of v, which is a neighbour of none any more."""
    rows = [(row & ~(1 << v)) | 1 << u if has(row, v) else row for row in around]
    rows[u] = (around[u] | around[v]) & ~(1 << u) & ~(1 << v)
    rows[v] = 0
    return rows


def joined(around, u, v):
    """Return the table of the masks of neighbours in which u and v are neighbours."""
    rows = list(around)
    rows[u] |= 1 << v
    rows[v] |= 1 << u
    return rows


def has(mask, v):
    """Return whether a vertex is in the set that a mask stands for."""
    return mask >> v & 1 == 1


def full_mask(n):
    """Return the mask of all of n vertices."""
    return (1 << n) - 1


def is_within(part, whole):
    """Return whether the set of the first mask is contained in that of the second one."""
    return part & whole == part
