"""Paths without common inner vertices, and the vertices that every path runs through.

Each vertex v is thought of as an entry 2 * v and an exit 2 * v + 1. A flow is a dict of the steps (v, w) that paths
take so far, each of which leads from the exit of v to the entry of w.
"""

from trellis.tables import neighbour_lists
from trellis.walks import reached, way_to


def disjoint_paths(graph, s, t, most):
    """Return a list of paths between two vertices that are no neighbours, and a set that cuts all paths, or None.

    The paths have no common inner vertices. There are at most so many of them, or, if there is a set, as many as it
    has vertices.
    """
    around = neighbour_lists(graph)
    flow = {}
    many = 0
    while many < most:
        before = reached(_ways(around, flow), 2 * s + 1)
        if 2 * t not in before:
            return _paths(flow, s, t), _cut(graph[0], before)
        flow = _changed(flow, way_to(2 * t, before))
        many += 1
    return _paths(flow, s, t), None


def _ways(around, flow):
    """Return the table that tells where one can go from each entry and exit: on, or back along a flow."""
    # Entries and exits take turns, and each of the two has its own list.
    used = {v: True for v, _ in flow}
    ways = []
    for v, others in enumerate(around):
        ways.append([] if v in used else [2 * v + 1])
        ways.append([2 * w for w in others] + ([2 * v] if v in used else []))
    for v, w in flow:
        ways[2 * w].append(2 * v + 1)
    return ways


def _changed(flow, way):
    """Return the flow after a way: what the way goes on along is added, what it goes back along is taken away."""
    steps = [(way[at], way[at + 1]) for at in range(len(way) - 1) if way[at] // 2 != way[at + 1] // 2]
    added = {(a // 2, b // 2): True for a, b in steps if a % 2 == 1}
    gone = {(b // 2, a // 2): True for a, b in steps if a % 2 == 0}
    for step in flow:
        if step not in gone:
            added[step] = True
    return added


def _paths(flow, s, t):
    """Return the list of the paths from s to t that a flow consists of."""
    after = {v: w for v, w in flow if v != s}
    paths = []
    for v, w in flow:
        if v == s:
            path = [s, w]
            while path[-1] != t:
                path.append(after[path[-1]])
            paths.append(tuple(path))
    return paths


def _cut(n, before):
    """Return the set of the vertices whose entries are reached, but not their exits."""
    return tuple([v for v in range(n) if 2 * v in before and 2 * v + 1 not in before])
