"""Tables of the neighbours of all vertices, and masks: integers that stand for sets, with a bit for each vertex."""


def neighbour_lists(graph):
    """Return a list with the ascending list of neighbours of each vertex."""
    n, edges = graph
    around = [[] for _ in range(n)]
    for u, v in edges:
        around[u].append(v)
        around[v].append(u)
    return around


def neighbour_masks(graph):
    """Return a list with the mask of the neighbours of each vertex."""
    return [mask_of(others) for others in neighbour_lists(graph)]


def masks_behind(graph, order):
    """Return a list with the mask of the neighbours behind each vertex of an order, in this order."""
    around = neighbour_masks(graph)
    left = mask_of(order)
    behind = []
    for v in order:
        left &= ~(1 << v)
        behind.append(around[v] & left)
    return behind


def is_clique(around, mask):
    """Return whether the vertices of a mask are pairwise neighbours, by a table of the masks of neighbours."""
    return all([is_within(mask, around[v] | 1 << v) for v in members_of(mask)])


def mask_of(members):
    """Return the mask of vertices."""
    mask = 0
    for v in members:
        mask |= 1 << v
    return mask


def members_of(mask):
    """Return the set that a mask stands for."""
    found = []
    while mask > 0:
        low = mask & -mask
        found.append(low.bit_length() - 1)
        mask ^= low
    return tuple(found)


def size_of(mask):
    """Return the number of vertices that a mask stands for."""
    return len(members_of(mask))


def has(mask, v):
    """Return whether a vertex is in the set that a mask stands for."""
    return mask >> v & 1 == 1


def full_mask(n):
    """Return the mask of all of n vertices."""
    return (1 << n) - 1


def is_within(part, whole):
    """Return whether the set of the first mask is contained in that of the second one."""
    return part & whole == part
