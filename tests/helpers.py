"""Graphs and values that the tests of several modules go through."""

from itertools import combinations
from random import Random


class Same:
    """Equal to everything."""

    def __eq__(self, other):
        return True

    def __hash__(self):
        return 0


class Touchy:
    """Not to be compared, measured, iterated, tested or indexed."""

    def refused(self, *rest):
        raise RuntimeError("touched")

    __eq__ = __lt__ = __le__ = __gt__ = __ge__ = __len__ = __iter__ = refused
    __bool__ = __getitem__ = __contains__ = __hash__ = __int__ = __index__ = refused


def odd_values():
    """Values of many kinds, none of them an integer from 0 to 60, a tuple of two items, or ()."""
    return [
        None, True, False, -1, 61, 10 ** 40, -10 ** 40, 0.0, 1.0, 2.5, float("nan"), float("inf"), 1j,
        "", "a", "ab", "01", b"", b"ab", [], [0, 1], [(0, 1)], {}, {0: 1, 1: 2}, set(), {0, 1},
        frozenset([0, 1]), range(2), (0,), (0, 1, 2), ((),), (((0, 1),),), iter([0, 1]), object(),
        object, int, len, lambda: 0, NotImplemented, ..., Same(), Touchy(), ValueError("x"),
    ]


def all_pairs(n):
    return list(combinations(range(n), 2))


def graphs_of_size(n):
    """All graphs with n vertices, made without the program."""
    pairs = all_pairs(n)
    return [
        (n, tuple(pair for at, pair in enumerate(pairs) if code >> at & 1))
        for code in range(2 ** len(pairs))
    ]


def small_graphs():
    """All graphs with at most four vertices."""
    return [graph for n in range(1, 5) for graph in graphs_of_size(n)]


def sets_of(n):
    """All sets of vertices of a graph with n vertices, the empty one too."""
    return [members for many in range(n + 1) for members in combinations(range(n), many)]


def joined_by_walks(graph, members):
    """Whether a set is connected, by adding neighbours to its first vertex as long as there are some."""
    if not members:
        return False
    seen = {members[0]}
    while True:
        more = {v for a, b in graph[1] for u, v in ((a, b), (b, a)) if u in seen and v in members} - seen
        if not more:
            return seen == set(members)
        seen |= more


def drawn_graphs(seed, sizes, many):
    """So many graphs with each of some sizes, sparse and dense ones, always the same for a seed."""
    draw = Random(seed)
    found = []
    for n in sizes:
        for at in range(many):
            share = (at + draw.random()) / many
            found.append((n, tuple(pair for pair in all_pairs(n) if draw.random() < share)))
    return found


def drawn_order(seed, n):
    order = list(range(n))
    Random(seed).shuffle(order)
    return tuple(order)


def undone(order):
    """The order that takes a renaming back."""
    return tuple(order.index(v) for v in range(len(order)))


def depth_of(value):
    """How deep a value is nested."""
    return 1 + max(map(depth_of, value), default=0) if isinstance(value, tuple) else 0
