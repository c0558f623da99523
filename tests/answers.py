"""The answers to questions, by searching for what the document defines, without the program and without papers."""

from functools import lru_cache
from itertools import combinations, permutations, product

import naive
from helpers import sets_of
from papers import partitions


def answer(graph, question):
    """The answer that a graph has."""
    kind, *parameters = question
    return "yes" if globals()[kind](naive.Graph(graph), *parameters) else "no"


def connects(g, members):
    return bool(members) and len(g.parts(members)) == 1


def connected(g):
    return connects(g, g.vertices)


def bipartite(g):
    return any(all((u in side) != (v in side) for u, v in g.edges) for side in sets_of(g.n))


def forest(g):
    return naive.without_cycle(g.n, g.edges)


def block(g):
    return connected(g) and (g.n == 1 or all(connects(g, [u for u in g.vertices if u != v]) for v in g.vertices))


def linked(g, s, t, k):
    return most_apart(inner_parts(g, s, t)) >= k


def inner_parts(g, s, t):
    """The sets of the inner vertices of all paths, of which only those that contain no other one matter."""
    found, waiting = [], [(s,)]
    for path in waiting:
        for v in g.near[path[-1]]:
            if v == t:
                found.append(frozenset(path[1:]))
            elif v not in path:
                waiting.append(path + (v,))
    return [part for part in set(found) if not any(other and other < part for other in found)]


def most_apart(parts):
    """The greatest number of sets without common items."""
    if not parts:
        return 0
    return max(most_apart(parts[1:]), 1 + most_apart([part for part in parts[1:] if not part & parts[0]]))


def degenerate(g, k):
    return all(any(len(g.near[v] & set(part)) <= k for v in part) for part in sets_of(g.n)[1:])


def indegree(g, k):
    if len(g.edges) > 9:
        return all(g.inside(part) <= k * len(part) for part in sets_of(g.n))
    return any(all(heads.count(v) <= k for v in g.vertices) for heads in product(*g.edges))


def forests(g, k):
    if len(g.edges) > 6:
        return all(g.inside(part) <= k * (len(part) - 1) for part in sets_of(g.n)[1:])
    return any(all(naive.without_cycle(g.n, part) for part in parts) for parts in parts_of_edges(g, k))


def parts_of_edges(g, k):
    for places in product(range(min(k, 6)), repeat=len(g.edges)):
        yield [[edge for edge, place in zip(g.edges, places) if place == at] for at in range(min(k, 6))]


def trees(g, k):
    if len(g.edges) > 6 or k > 6:
        return all(across >= k * (many - 1) for many, across in fewest_across(g.graph).items())
    return k == 0 or any(all(g.connects(part) for part in parts) for parts in parts_of_edges(g, k))


@lru_cache(maxsize=None)
def fewest_across(graph):
    """For each number of sets, the fewest edges with ends in different ones, over all partitions into so many."""
    found = {}
    for sets in partitions(list(range(graph[0]))):
        place = {v: at for at, part in enumerate(sets) for v in part}
        across = len([(u, v) for u, v in graph[1] if place[u] != place[v]])
        found[len(sets)] = min(across, found.get(len(sets), across))
    return found


def chordal(g):
    return not any(
        connects(g, part) and all(len(g.near[v] & set(part)) == 2 for v in part)
        for part in sets_of(g.n) if len(part) > 3
    )


def interval(g):
    """Whether there is an order in which each vertex has all those as neighbours that come before its last one.

    The intervals from each vertex to its last neighbour behind it are right then, and the order of the beginnings of
    right intervals is such an order.
    """
    def fits(row):
        if len(row) == g.n:
            return True
        return any(
            all(not g.joined(u, w) or set(row[at + 1:]) <= g.near[u] for at, u in enumerate(row)) and fits(row + [w])
            for w in g.vertices if w not in row
        )
    return fits([])


def comparability(g):
    def fits(done):
        if len(done) < len(g.edges):
            u, v = g.edges[len(done)]
            return any(agrees(done, arrow) and fits(done | {arrow}) for arrow in ((u, v), (v, u)))
        return all((u, y) in done for u, v in done for x, y in done if v == x)

    def agrees(done, arrow):
        u, v = arrow
        ahead = [y for x, y in done if x == v]
        before = [x for x, y in done if y == u]
        return all(g.joined(u, y) and (y, u) not in done for y in ahead) and all(
            g.joined(x, v) and (v, x) not in done for x in before
        )
    return fits(frozenset())


def permutation(g):
    """The second order follows from the first one, if there is any."""
    for first in permutations(g.vertices):
        many = [0] * g.n
        for (i, u), (j, v) in combinations(enumerate(first), 2):
            many[u if g.joined(u, v) else v] += 1
        if sorted(many) == g.vertices:
            return True
    return False


def cograph(g):
    return not any(
        g.joined(a, b) and g.joined(b, c) and g.joined(c, d)
        and not (g.joined(a, c) or g.joined(a, d) or g.joined(b, d))
        for a, b, c, d in permutations(g.vertices, 4)
    )


def prime(g):
    for part in sets_of(g.n):
        if 1 < len(part) < g.n and all(len({g.joined(u, v) for u in part}) == 1 for v in g.vertices if v not in part):
            return False
    return True


def planar(g):
    return not has_minor(g, lambda vertices, edges: is_full(vertices, edges, 5) or is_two_sided(vertices, edges, 3))


def outerplanar(g):
    if g.n <= 5:
        return any(naive.right(g.graph, ("outerplanar",), ("yes", order)) for order in permutations(g.vertices))
    return not has_minor(g, lambda vertices, edges: is_full(vertices, edges, 4) or is_two_sided(vertices, edges, 2))


def has_minor(g, found):
    """Whether something is found after merging neighbours any number of times."""
    seen, waiting = set(), [(frozenset(g.vertices), frozenset(frozenset(edge) for edge in g.edges))]
    for vertices, edges in waiting:
        if found(sorted(vertices), edges):
            return True
        for u, v in [sorted(edge) for edge in edges]:
            moved = {frozenset(u if w == v else w for w in edge) for edge in edges}
            state = vertices - {v}, frozenset(edge for edge in moved if len(edge) == 2)
            if state not in seen:
                seen.add(state)
                waiting.append(state)
    return False


def is_full(vertices, edges, many):
    return any(
        all(frozenset(pair) in edges for pair in combinations(part, 2)) for part in combinations(vertices, many)
    )


def is_two_sided(vertices, edges, many):
    """Whether so many vertices have three common neighbours."""
    return any(
        all(frozenset((u, v)) in edges for u in first for v in second)
        for first in combinations(vertices, many)
        for second in combinations([v for v in vertices if v not in first], 3)
    )


def width(g, k):
    return least_width(g.graph) <= k


@lru_cache(maxsize=None)
def least_width(graph):
    """The vertices that come first are taken away in the best order, whatever comes behind."""
    g = naive.Graph(graph)
    best = {frozenset(): -1}
    for part in sets_of(g.n)[1:]:
        gone = frozenset(part)
        best[gone] = min(max(best[gone - {v}], many_behind(g, gone - {v}, v)) for v in part)
    return best[frozenset(g.vertices)]


def many_behind(g, gone, v):
    """How many vertices that are not gone are reached from v over those that are."""
    seen, waiting = {v}, [v]
    for u in waiting:
        for w in g.near[u] - seen:
            seen.add(w)
            if w in gone:
                waiting.append(w)
    return len(seen - gone - {v})


def colours(g, k):
    def fits(done):
        if len(done) == g.n:
            return True
        used = {done[u] for u in g.near[len(done)] if u < len(done)}
        # A colour that is new stands for all that are.
        return any(fits(done + [c]) for c in range(min(k, max(done, default=-1) + 2)) if c not in used)
    return fits([])


def independent(g, k):
    return any(g.independent(part) for part in combinations(g.vertices, k))


def matching(g, k):
    return most_apart([frozenset(edge) for edge in g.edges]) >= k


def isomorphic(g, other):
    h = naive.Graph(other)
    if (g.n, len(g.edges)) != (h.n, len(h.edges)):
        return False

    def fits(row):
        if len(row) == g.n:
            return True
        v = len(row)
        return any(
            all(g.joined(u, v) == h.joined(x, w) for u, x in enumerate(row)) and fits(row + [w])
            for w in h.vertices if w not in row
        )
    return fits([])
