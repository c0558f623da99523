"""Graphs that are alike: sorts of vertices, symmetries, and the least of all graphs that are alike."""

from trellis.tables import full_mask, has, members_of, neighbour_lists, neighbour_masks, size_of


def rounds_of_degrees(graph):
    """Return the list of the degrees, and then lists of finer and finer sorts until the next one is not finer."""
    around = neighbour_lists(graph)
    degrees = [len(others) for others in around]
    rounds = [degrees, _finer(around, degrees)]
    while len(set(rounds[-1])) != len(set(rounds[-2])):
        rounds.append(_finer(around, rounds[-1]))
    return rounds


def _finer(around, sorts):
    """Return a list with the number of the sort of each vertex, by its sort before and those of its neighbours."""
    numbers = {}
    found = []
    for v, others in enumerate(around):
        look = (sorts[v], tuple(sorted([sorts[u] for u in others])))
        if look not in numbers:
            numbers[look] = len(numbers)
        found.append(numbers[look])
    return found


def symmetries(graph):
    """Return the ascending list of the orders that rename a graph to itself."""
    n = graph[0]
    around = neighbour_masks(graph)
    sorts = rounds_of_degrees(graph)[-1]
    found = []
    waiting = [()]
    while waiting:
        row = waiting.pop()
        if len(row) == n:
            found.append(row)
        else:
            fitting = [w for w in range(n) if w not in row and _fits(around, sorts, row, w)]
            # The least one comes last, so that it is taken next.
            waiting.extend([(*row, w) for w in fitting[::-1]])
    return found


def _fits(around, sorts, row, w):
    """Return whether the next vertex behind a row may get the number w."""
    v = len(row)
    return sorts[v] == sorts[w] and all([has(around[v], u) == has(around[w], x) for u, x in enumerate(row)])


def canonical(graph):
    """Return the least graph that is isomorphic to a graph.

    In it, the vertex 0 has as many neighbours as possible, the next ones; then 1 has as many of these as possible, and
    so on. So only the numbers of each group of vertices that are told apart by those before must be chosen.
    """
    n = graph[0]
    around = neighbour_masks(graph)
    states = [(full_mask(n),)]
    edges = []
    for v in range(n):
        best = max([_row(around, groups, u) for groups in states for u in _choices(around, groups[0])])
        edges.extend([(v, w) for w in _numbers(v + 1, states[0], best)])
        states = _states_after(around, states, best)
    return n, tuple(edges)


def _choices(around, group):
    """Return the list of the vertices of a group without those whose exchange with one before changes nothing."""
    found = []
    for v in members_of(group):
        if not any([around[u] & ~(1 << v) == around[v] & ~(1 << u) for u in found]):
            found.append(v)
    return found


def _row(around, groups, v):
    """Return how many neighbours a vertex has in each group."""
    return tuple([size_of(group & around[v]) for group in groups])


def _numbers(first, groups, row):
    """Return the list of the numbers of the neighbours, which come first in each group, if the groups begin there."""
    found = []
    # The vertex itself is one of the first group.
    sizes = [size_of(group) for group in groups]
    sizes[0] -= 1
    for many, size in zip(row, sizes):
        found.extend(list(range(first, first + many)))
        first += size
    return found


def _states_after(around, states, best):
    """Return the list of the tuples of groups that are left behind vertices with the best row."""
    found = {}
    for groups in states:
        for v in _choices(around, groups[0]):
            if _row(around, groups, v) == best:
                found[_told_apart(around, groups, v)] = True
    return list(found)


def _told_apart(around, groups, v):
    """Return the groups without a vertex, each one parted into its neighbours and others."""
    parts = [part & ~(1 << v) for group in groups for part in (group & around[v], group & ~around[v])]
    return tuple([part for part in parts if part != 0])
