"""Sparse and dense parts of graphs."""

from trellis.graphs import inside
from trellis.tables import neighbour_lists
from trellis.walks import reached, way_to


def core_numbers(graph):
    """Return for each vertex the greatest k for which a set contains it whose vertices have k neighbours in it each."""
    around = neighbour_lists(graph)
    degrees = [len(others) for others in around]
    cores = [0] * graph[0]
    left = list(range(graph[0]))
    greatest = 0
    while left:
        v = min(left, key=lambda u: degrees[u])
        # If a set contains v, the first of its vertices to come here has no more neighbours in it than were left then.
        greatest = max(greatest, degrees[v])
        cores[v] = greatest
        left.remove(v)
        for u in around[v]:
            degrees[u] -= 1
    return cores


def densest(graph):
    """Return a set that is not empty with the greatest ratio of edges inside to vertices."""
    members = tuple(range(graph[0]))
    denser = _denser(graph, members)
    while denser is not None:
        members = denser
        denser = _denser(graph, members)
    return members


def _denser(graph, members):
    """Return a set with a greater ratio of edges inside to vertices than a given one, or None if there is none.

    Each edge has as many units as the given set has vertices, and shares them among its two ends. If no vertex gets
    more units than there are edges inside the given set, no set has a greater ratio. So units are moved on from the
    vertices with more to those with fewer. Where this fails, all units of the vertices that can be reached belong to
    edges between these, and they are more than a set with at most the given ratio can have.
    """
    most = inside(graph, members)
    around = neighbour_lists(graph)
    shares = _halves(graph, len(members))
    loaded = _first_above(shares, most)
    while loaded is not None:
        open_ways = [[v for v in others if shares[u][v] > 0] for u, others in enumerate(around)]
        before = reached(open_ways, loaded)
        light = _first_below(shares, before, most)
        if light is None:
            return tuple(sorted(before))
        shares = _moved_on(shares, way_to(light, before), most)
        loaded = _first_above(shares, most)
    return None


def _halves(graph, units):
    """Return a table that tells for different vertices u and v how many units of their edge u has."""
    n, edges = graph
    shares = [[0] * n for _ in range(n)]
    for u, v in edges:
        shares[u][v] = units // 2
        shares[v][u] = units - units // 2
    return shares


def _first_above(shares, most):
    """Return the first vertex that has more than so many units, or None."""
    for v, row in enumerate(shares):
        if sum(row) > most:
            return v
    return None


def _first_below(shares, vertices, most):
    """Return the first of some vertices that has less than so many units, or None."""
    for v in vertices:
        if sum(shares[v]) < most:
            return v
    return None


def _moved_on(shares, way, most):
    """Return the shares once as many units as possible have moved along a way from a loaded to a light vertex."""
    steps = [(way[at], way[at + 1]) for at in range(len(way) - 1)]
    spare = sum(shares[way[0]]) - most
    room = most - sum(shares[way[-1]])
    many = min([spare, room] + [shares[u][v] for u, v in steps])
    moved = [list(row) for row in shares]
    for u, v in steps:
        moved[u][v] -= many
        moved[v][u] += many
    return moved
