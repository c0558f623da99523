"""Papers for small graphs, found by going through all that might be right, without the program."""

from itertools import chain, combinations, permutations, product

import naive
from helpers import sets_of

PLAIN = (
    "connected", "bipartite", "forest", "block", "chordal", "interval", "cograph", "comparability", "permutation",
    "prime", "planar", "outerplanar",
)
NUMBERED = ("degenerate", "indegree", "forests", "trees", "width", "colours", "independent", "matching")


def questions_for(graph, others=()):
    """Questions of every kind, with the numbers at which the answers change and some more."""
    n = graph[0]
    found = [(kind,) for kind in PLAIN]
    found += [(kind, k) for kind in NUMBERED for k in range(min(n, 5) + 1)]
    pairs = [(0, 1), (n - 1, 0), (1, n - 1)] if n > 2 else [(0, 1)] if n == 2 else []
    found += [("linked", s, t, k) for s, t in pairs for k in range(4)]
    return found + [("isomorphic", other) for other in others]


def papers_of(graph, question, answer):
    """Data that might be right for an answer, one after another; some of them are, if the answer is right."""
    kind, *parameters = question
    return globals()[f"{kind}_{answer}"](naive.Graph(graph), *parameters)


def right_papers(graph, question, most=1):
    """The first right papers, each with the only answer that has any."""
    found = {}
    for answer in ("yes", "no"):
        papers = ((answer, data) for data in papers_of(graph, question, answer))
        right = (paper for paper in papers if naive.right(graph, question, paper))
        found[answer] = [paper for paper, _ in zip(right, range(most))]
    assert bool(found["yes"]) != bool(found["no"]), (graph, question, found)
    return found["yes"] + found["no"]


def orders(g):
    return permutations(range(g.n))


def rows(g, least=1):
    return chain(*[permutations(range(g.n), many) for many in range(least, g.n + 1)])


def cycles(g):
    return (row for row in rows(g, 3) if row[0] == min(row))


def sets(g):
    return sets_of(g.n)


def directions(g):
    return product(*[((u, v), (v, u)) for u, v in g.edges])


def parts_of_edges(g, many):
    """All ways to put the edges into so many parts."""
    for places in product(range(many), repeat=len(g.edges)):
        yield tuple(tuple(e for e, at in zip(g.edges, places) if at == part) for part in range(many))


def connected_yes(g):
    return combinations(g.edges, g.n - 1)


def connected_no(g):
    return sets(g)


def bipartite_yes(g):
    return sets(g)


def bipartite_no(g):
    return cycles(g)


def forest_yes(g):
    return orders(g)


def forest_no(g):
    return cycles(g)


def block_yes(g):
    yield ()
    for cycle in cycles(g):
        if naive.right(g.graph, ("forest",), ("no", cycle)):
            yield from with_ears(g, (cycle,))


def with_ears(g, ears):
    yield ears
    built = set().union(*ears)
    for many in range(3, g.n + 1):
        for row in permutations(range(g.n), many):
            inner = set(row[1:-1])
            if row[0] in built and row[-1] in built and not inner & built:
                if all(g.joined(u, v) for u, v in zip(row, row[1:])):
                    yield from with_ears(g, ears + (row,))


def block_no(g):
    return product([(), *[(v,) for v in range(g.n)]], sets(g))


def linked_yes(g, s, t, k):
    paths = [row for row in rows(g) if row[0] == s and row[-1] == t]
    paths = [row for row in paths if all(g.joined(u, v) for u, v in zip(row, row[1:]))]
    return combinations(paths, k)


def linked_no(g, s, t, k):
    return sets(g)


def degenerate_yes(g, k):
    return orders(g)


def degenerate_no(g, k):
    return sets(g)


def indegree_yes(g, k):
    return directions(g)


def indegree_no(g, k):
    return sets(g)


def forests_yes(g, k):
    return parts_of_edges(g, k)


def forests_no(g, k):
    return sets(g)


def trees_yes(g, k):
    if g.n == 1:
        return [()]
    if len(g.edges) < k * (g.n - 1):
        return []
    return (parts[:k] for parts in parts_of_edges(g, k + 1))


def trees_no(g, k):
    return partitions(list(range(g.n)))


def partitions(items):
    """All partitions into ascending tuples, ascending."""
    if not items:
        return [()]
    first, found = items[0], []
    for rest in partitions(items[1:]):
        found.append(tuple(sorted(rest + ((first,),))))
        for at, part in enumerate(rest):
            found.append(tuple(sorted(rest[:at] + ((first,) + part,) + rest[at + 1:])))
    return found


def chordal_yes(g):
    return orders(g)


def chordal_no(g):
    return cycles(g)


def interval_yes(g):
    """All ways to begin and end intervals at places that as many vertices as possible share."""
    ends = [(a, b) for a in range(g.n) for b in range(a, g.n)]
    return placed(g, ends, ())


def placed(g, ends, done):
    if len(done) == g.n:
        yield done
        return
    for a, b in ends:
        if all(g.joined(v, len(done)) == (a <= d and c <= b) for v, (c, d) in enumerate(done)):
            yield from placed(g, ends, done + ((a, b),))


def interval_no(g):
    for cycle in cycles(g):
        yield "hole", cycle
    for a, b, c in permutations(range(g.n), 3):
        paths = [paths_past(g, *ends) for ends in ((a, b, c), (b, c, a), (c, a, b))]
        for p, q, r in product(*paths):
            yield "asteroid", a, b, c, p, q, r


def paths_past(g, start, end, other):
    allowed = [v for v in range(g.n) if v != other and not g.joined(v, other)]
    found = [row for many in range(1, len(allowed) + 1) for row in permutations(allowed, many)]
    found = [row for row in found if row[0] == start and row[-1] == end]
    return [row for row in found if all(g.joined(u, v) for u, v in zip(row, row[1:]))]


def comparability_yes(g):
    return directions(g)


def comparability_no(g):
    return chains(g)


def chains(g):
    """Shortest chains of forcing from each arrow to others."""
    arrows = [(u, v) for u in range(g.n) for v in sorted(g.near[u])]
    for start in arrows:
        known, waiting = {start: (start,)}, [start]
        for a, b in waiting:
            forced = [(a, c) for c in g.near[a] if c != b and not g.joined(b, c)]
            forced += [(c, b) for c in g.near[b] if c != a and not g.joined(a, c)]
            for arrow in sorted(forced):
                if arrow not in known:
                    known[arrow] = known[a, b] + (arrow,)
                    waiting.append(arrow)
        yield from known.values()


def permutation_yes(g):
    return product(orders(g), repeat=2)


def permutation_no(g):
    yield from (("graph", found) for found in chains(g))
    yield from (("complement", found) for found in chains(naive.other_way(g)))


def cograph_yes(g):
    return trees(tuple(range(g.n)))


def trees(vertices):
    if len(vertices) == 1:
        return list(vertices)
    found = []
    for partition in partitions(list(vertices)):
        if len(partition) > 1:
            for parts in product(*[trees(part) for part in partition]):
                found += [("union", *parts), ("join", *parts)]
    return found


def cograph_no(g):
    return permutations(range(g.n), 4)


def prime_yes(g):
    rows_of_pairs = [list(taken_in(g, pair)) for pair in combinations(range(g.n), 2)]
    return product(*rows_of_pairs)


def taken_in(g, seen):
    """The rows of all other vertices each of which is a neighbour of some, but not of all before it."""
    if len(seen) == g.n:
        yield ()
    for v in range(g.n):
        if v not in seen and len({g.joined(u, v) for u in seen}) == 2:
            yield from ((v, *row) for row in taken_in(g, seen + (v,)))


def prime_no(g):
    return sets(g)


def planar_yes(g):
    # Where around a vertex its item begins does not matter.
    items = [sorted(g.near[v]) for v in range(g.n)]
    return product(*[[(*row[:1], *rest) for rest in permutations(row[1:])] for row in items])


def planar_no(g):
    yield from bodies(g, "five", 5, list(combinations(range(5), 2)))
    yield from bodies(g, "three", 6, list(product((0, 1, 2), (3, 4, 5))))


def outerplanar_yes(g):
    return orders(g)


def outerplanar_no(g):
    yield from bodies(g, "four", 4, list(combinations(range(4), 2)))
    yield from bodies(g, "two", 5, list(product((0, 1), (2, 3, 4))))


def bodies(g, word, many, pairs):
    for corners in permutations(range(g.n), many):
        ends = [(corners[i], corners[j]) for i, j in pairs]
        yield from ((word, corners, paths) for paths in separate_paths(g, ends, set(corners), ()))


def separate_paths(g, ends, used, done):
    if len(done) == len(ends):
        yield done
        return
    s, t = ends[len(done)]
    free = [v for v in range(g.n) if v not in used]
    for many in range(len(free) + 1):
        for inner in permutations(free, many):
            row = (s, *inner, t)
            if all(g.joined(u, v) for u, v in zip(row, row[1:])):
                yield from separate_paths(g, ends, used | set(inner), done + (row,))


def width_yes(g, k):
    for order in orders(g):
        near = {v: set(g.near[v]) for v in range(g.n)}
        bags, links = [], []
        for at, v in enumerate(order):
            behind = [u for u in order[at + 1:] if u in near[v]]
            bags.append(tuple(sorted([v] + behind)))
            links += [(at, order.index((behind + list(order[at + 1:]))[0]))] if at + 1 < g.n else []
            for u in behind:
                near[u] |= set(behind) - {u}
        yield tuple(bags), tuple(links)


def width_no(g, k):
    """One component of the rest for each set of k + 1 vertices, any two of which touch."""
    many = min(k + 1, g.n)
    choices = [g.parts(set(range(g.n)) - set(members)) for members in combinations(range(g.n), many)]
    return havens(g, choices, ())


def havens(g, choices, done):
    if len(done) == len(choices):
        yield tuple(tuple(sorted(part)) for part in done)
        return
    for part in choices[len(done)]:
        if all(part & other or any(g.joined(u, v) for u in part for v in other) for other in done):
            yield from havens(g, choices, done + (part,))


def colours_yes(g, k):
    return product(range(k), repeat=g.n)


def colours_no(g, k):
    return colour_searches(set(range(g.n)), {frozenset(edge) for edge in g.edges}, k)


def colour_searches(vertices, edges, k):
    for members in combinations(sorted(vertices), k + 1):
        if all(frozenset(pair) in edges for pair in combinations(members, 2)):
            yield "clique", members
    for u, v in combinations(sorted(vertices), 2):
        if frozenset((u, v)) not in edges:
            merged = {frozenset(u if w == v else w for w in edge) for edge in edges}
            for same in colour_searches(vertices - {v}, merged, k):
                for different in colour_searches(vertices, edges | {frozenset((u, v))}, k):
                    yield "split", u, v, same, different
                    break
                break


def independent_yes(g, k):
    return combinations(range(g.n), k)


def independent_no(g, k):
    return set_searches(g, tuple(range(g.n)), k)


def set_searches(g, members, k):
    if k > 0:
        cliques = [part for part in sets(g) if part and set(part) <= set(members) and g.clique(part)]
        for many in range(min(k, 4)):
            for cover in combinations(cliques, many):
                if set().union(*cover) == set(members):
                    yield "cover", cover
    for v in members[:2]:
        rest = tuple(u for u in members if u != v)
        for taken in set_searches(g, tuple(u for u in rest if not g.joined(u, v)), k - 1):
            for left in set_searches(g, rest, k):
                yield "take", v, taken, left
                break
            break


def matching_yes(g, k):
    return combinations(g.edges, k)


def matching_no(g, k):
    return sets(g)


def isomorphic_yes(g, other):
    return orders(g)


def isomorphic_no(g, other):
    yield ("sizes",)
    h = naive.Graph(other)
    if h.n == g.n:
        for turn in (1, -1):
            yield from pairing_searches(g, h, [], turn)


def pairing_searches(g, h, pairs, turn):
    """Searches that end as soon as they can, by one of the three reasons, which take turns at coming first."""
    if pairs:
        v, w = pairs[-1]
        reasons = [("clash",), ("degree",)] + [("near", d) for d in range(g.n)]
        for reason in reasons[::turn]:
            if naive_reason(g, h, pairs, reason):
                yield reason
                return
    left = [v for v in range(g.n) if v not in [a for a, _ in pairs]]
    free = [w for w in range(g.n) if w not in [b for _, b in pairs]]
    for v in left[::turn][:1]:
        searches = [next(pairing_searches(g, h, pairs + [(v, w)], turn), None) for w in free]
        if None not in searches:
            yield "try", v, tuple(searches)


def naive_reason(g, h, pairs, reason):
    try:
        naive.pairing_search(g, h, pairs, reason)
    except naive.Wrong:
        return False
    return True
