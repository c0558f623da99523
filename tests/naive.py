"""A second check of papers, written straight from the document and without the program, slow and with plain sets."""

from itertools import combinations, permutations, product


class Wrong(Exception):
    pass


def need(condition):
    if not condition:
        raise Wrong


def a_tuple(value, many=None):
    need(type(value) is tuple and many in (None, len(value)))
    return value


def an_integer(value):
    need(type(value) is int)
    return value


def ascending(items):
    need(all(a < b for a, b in zip(items, items[1:])))


class Graph:
    def __init__(self, graph):
        self.graph = graph
        self.n, self.edges = graph
        self.vertices = list(range(self.n))
        self.near = {v: set() for v in self.vertices}
        for u, v in self.edges:
            self.near[u].add(v)
            self.near[v].add(u)

    def joined(self, u, v):
        return u in self.near[v]

    def vertex(self, value):
        need(an_integer(value) in self.vertices)
        return value

    def row(self, value):
        for v in a_tuple(value):
            self.vertex(v)
        need(len(set(value)) == len(value))
        return value

    def members(self, value):
        self.row(value)
        ascending(value)
        return set(value)

    def order(self, value):
        need(len(self.row(value)) == self.n)
        return value

    def path(self, value):
        need(len(self.row(value)) > 0 and all(self.joined(u, v) for u, v in zip(value, value[1:])))
        return value

    def path_between(self, u, v, value):
        need(self.path(value)[0] == u and value[-1] == v)
        return value

    def cycle(self, value):
        need(len(self.path(value)) > 2 and self.joined(value[0], value[-1]))
        return value

    def arrow(self, value):
        a_tuple(value, 2)
        need(self.joined(*self.row(value)))
        return value

    def edge_tuple(self, value):
        for edge in a_tuple(value):
            self.arrow(edge)
            need(edge in self.edges)
        ascending(value)
        return value

    def direction(self, value):
        a_tuple(value, len(self.edges))
        for arrow, edge in zip(value, self.edges):
            need(tuple(sorted(self.arrow(arrow))) == edge)
        return value

    def rest(self, order, v):
        """The neighbours behind a vertex of an order."""
        return self.near[v] & set(order[order.index(v):])

    def connects(self, edges):
        return reach(self.vertices, [set(edge) for edge in edges]) == set(self.vertices)

    def inside(self, members):
        return len([edge for edge in self.edges if set(edge) <= set(members)])

    def independent(self, members):
        return not any(self.joined(u, v) for u, v in combinations(members, 2))

    def clique(self, members):
        return all(self.joined(u, v) for u, v in combinations(members, 2))

    def parts(self, members):
        """The components of a set."""
        left, found = set(members), []
        while left:
            start = min(left)
            part = reach([start] + sorted(left - {start}), [set(edge) for edge in self.edges if set(edge) <= left])
            found.append(part)
            left -= part
        return found


def reach(vertices, pairs):
    """What is reached from the first of some vertices."""
    seen = {vertices[0]}
    while True:
        more = set().union(*[pair for pair in pairs if pair & seen]) - seen
        if not more:
            return seen
        seen |= more


def without_cycle(n, edges):
    """Whether edges contain no cycle: as long as there are some, one has an end that no other one has."""
    left = list(edges)
    while left:
        ends = [v for edge in left for v in edge]
        bare = [edge for edge in left if 1 in (ends.count(edge[0]), ends.count(edge[1]))]
        if not bare:
            return False
        left = [edge for edge in left if edge not in bare]
    return True


def right(graph, question, paper):
    """Whether a paper is right."""
    kind, *parameters = question
    try:
        answer, data = a_tuple(paper, 2)
        need(type(answer) is str and answer in ("yes", "no"))
        need(globals()[f"{kind}_{answer}"](Graph(graph), *parameters, data) is not False)
    except Wrong:
        return False
    return True


def connected_yes(g, data):
    return len(g.edge_tuple(data)) == g.n - 1 and g.connects(data)


def connected_no(g, data):
    side = g.members(data)
    return 0 < len(side) < g.n and not any(len(side & set(edge)) == 1 for edge in g.edges)


def bipartite_yes(g, data):
    side = g.members(data)
    return all(len(side & set(edge)) == 1 for edge in g.edges)


def bipartite_no(g, data):
    return len(g.cycle(data)) in range(3, 100, 2)


def forest_yes(g, data):
    return degenerate_yes(g, 1, data)


def forest_no(g, data):
    g.cycle(data)


def block_yes(g, data):
    a_tuple(data)
    if g.n < 3:
        return data == () and len(g.edges) == g.n - 1
    seen = set()
    for at, ear in enumerate(data):
        if at == 0:
            g.cycle(ear)
        else:
            need(len(g.path(ear)) > 1 and ear[0] in seen and ear[-1] in seen and not set(ear[1:-1]) & seen)
        seen |= set(ear)
    return seen == set(g.vertices)


def block_no(g, data):
    removed, side = [g.members(part) for part in a_tuple(data, 2)]
    others = set(g.vertices) - removed - side
    need(len(removed) < 2 and side and not side & removed and others)
    return not any(g.joined(u, v) for u in side for v in others)


def linked_yes(g, s, t, k, data):
    for path in a_tuple(data, k):
        g.path_between(s, t, path)
    return all(p != q and not set(p[1:-1]) & set(q[1:-1]) for p, q in combinations(data, 2))


def linked_no(g, s, t, k, data):
    members = g.members(data)
    need(s not in members and t not in members and len(members) <= k - (2 if g.joined(s, t) else 1))
    pairs = [set(edge) for edge in g.edges if not set(edge) & members and set(edge) != {s, t}]
    return t not in reach([s], pairs)


def degenerate_yes(g, k, data):
    g.order(data)
    return all(len(g.rest(data, v)) <= k for v in g.vertices)


def degenerate_no(g, k, data):
    members = g.members(data)
    return members and all(len(g.near[v] & members) > k for v in members) or False


def indegree_yes(g, k, data):
    heads = [v for _, v in g.direction(data)]
    return all(heads.count(v) <= k for v in g.vertices)


def indegree_no(g, k, data):
    return g.inside(g.members(data)) > k * len(data)


def forests_yes(g, k, data):
    need(len(a_tuple(data)) <= k)
    for part in data:
        need(without_cycle(g.n, g.edge_tuple(part)))
    return sorted(sum(data, ())) == list(g.edges)


def forests_no(g, k, data):
    members = g.members(data)
    return len(members) > 0 and g.inside(members) > k * (len(members) - 1)


def trees_yes(g, k, data):
    if g.n == 1:
        return a_tuple(data) == ()
    for part in a_tuple(data, k):
        need(len(g.edge_tuple(part)) == g.n - 1 and g.connects(part))
    return all(not set(p) & set(q) for p, q in combinations(data, 2))


def trees_no(g, k, data):
    sets = [g.members(part) for part in a_tuple(data)]
    need(all(sets))
    ascending(data)
    need(sum(len(part) for part in sets) == g.n and set().union(*sets) == set(g.vertices))
    across = [edge for edge in g.edges if not any(set(edge) <= part for part in sets)]
    return len(across) < k * (len(sets) - 1)


def chordal_yes(g, data):
    g.order(data)
    return all(g.clique(g.rest(data, v)) for v in g.vertices)


def hole(g, data):
    need(len(g.cycle(data)) > 3)
    next_to = [{data[at - 1], data[at]} for at in range(len(data))]
    need(all({u, v} in next_to for u, v in combinations(data, 2) if g.joined(u, v)))


def chordal_no(g, data):
    hole(g, data)


def interval_yes(g, data):
    for item in a_tuple(data, g.n):
        a, b = a_tuple(item, 2)
        need(an_integer(a) <= an_integer(b))
    pairs = combinations(g.vertices, 2)
    return all(g.joined(u, v) != (data[u][1] < data[v][0] or data[v][1] < data[u][0]) for u, v in pairs)


def interval_no(g, data):
    need(len(a_tuple(data)) in (2, 7) and type(data[0]) is str)
    if len(data) == 2:
        need(data[0] == "hole")
        hole(g, data[1])
        return
    need(data[0] == "asteroid")
    a, b, c = [g.vertex(v) for v in data[1:4]]
    for (start, end, other), path in zip([(a, b, c), (b, c, a), (c, a, b)], data[4:]):
        need(not set(g.path_between(start, end, path)) & (g.near[other] | {other}))


def comparability_yes(g, data):
    g.direction(data)
    return all((u, y) in data for u, v in data for x, y in data if v == x)


def chain(g, data):
    for arrow in a_tuple(data):
        g.arrow(arrow)
    need(len(data) > 1 and data[-1] == (data[0][1], data[0][0]))
    for (a, b), after in zip(data, data[1:]):
        forced = [(a, c) for c in g.near[a] if c != b and not g.joined(b, c)]
        need(after in forced + [(c, b) for c in g.near[b] if c != a and not g.joined(a, c)])


def comparability_no(g, data):
    chain(g, data)


def permutation_yes(g, data):
    first, second = [g.order(order) for order in a_tuple(data, 2)]
    for u, v in combinations(g.vertices, 2):
        turned = (first.index(u) < first.index(v)) is not (second.index(u) < second.index(v))
        need(turned is g.joined(u, v))


def other_way(g):
    pairs = combinations(g.vertices, 2)
    return Graph((g.n, tuple(pair for pair in pairs if pair not in g.edges)))


def permutation_no(g, data):
    word, arrows = a_tuple(data, 2)
    need(type(word) is str and word in ("graph", "complement"))
    chain(g if word == "graph" else other_way(g), arrows)


def cograph_yes(g, data):
    def leaves(tree):
        if type(tree) is int:
            return [g.vertex(tree)]
        need(len(a_tuple(tree)) > 2 and type(tree[0]) is str and tree[0] in ("union", "join"))
        parts = [leaves(part) for part in tree[1:]]
        for p, q in combinations(parts, 2):
            need(all(g.joined(u, v) is (tree[0] == "join") for u in p for v in q))
        return sum(parts, [])
    return sorted(leaves(data)) == g.vertices


def cograph_no(g, data):
    need(len(g.path(data)) == 4)
    return not any(g.joined(data[i], data[j]) for i, j in ((0, 2), (0, 3), (1, 3)))


def prime_yes(g, data):
    pairs = list(combinations(g.vertices, 2))
    for pair, row in zip(pairs, a_tuple(data, len(pairs))):
        need(sorted(g.row(row) + pair) == g.vertices)
        for at, v in enumerate(row):
            need(len({g.joined(u, v) for u in pair + row[:at]}) == 2)


def prime_no(g, data):
    members = g.members(data)
    outside = set(g.vertices) - members
    return len(members) > 1 and len(outside) > 0 and all(len({g.joined(u, v) for u in members}) == 1 for v in outside)


def planar_yes(g, data):
    for v, row in enumerate(a_tuple(data, g.n)):
        need(set(g.row(row)) == g.near[v])
    left = set(g.edges) | {(v, u) for u, v in g.edges}
    faces = {v: 0 for v in g.vertices}
    while left:
        u, v = min(left)
        faces[u] += 1
        while (u, v) in left:
            left.remove((u, v))
            u, v = v, (data[v] + data[v])[data[v].index(u) + 1]
    for part in g.parts(g.vertices):
        need(len(part) == 1 or len(part) - g.inside(part) + sum(faces[v] for v in part) == 2)


def contained(g, data, forms):
    word, corners, paths = a_tuple(data, 3)
    need(type(word) is str and word in forms)
    pairs = forms[word]
    need(len(g.row(corners)) == 1 + max(max(pair) for pair in pairs))
    for (i, j), path in zip(pairs, a_tuple(paths, len(pairs))):
        g.path_between(corners[i], corners[j], path)
        need(not set(path[1:-1]) & set(corners))
    need(all(not set(p[1:-1]) & set(q) for p, q in permutations(paths, 2)))


def planar_no(g, data):
    contained(g, data, {
        "five": list(combinations(range(5), 2)), "three": list(product((0, 1, 2), (3, 4, 5))),
    })


def outerplanar_yes(g, data):
    g.order(data)
    for (a, c), (b, d) in combinations(g.edges, 2):
        if len({a, b, c, d}) == 4:
            between = set(data[min(data.index(a), data.index(c)):max(data.index(a), data.index(c))])
            need((b in between) == (d in between))


def outerplanar_no(g, data):
    contained(g, data, {"four": list(combinations(range(4), 2)), "two": list(product((0, 1), (2, 3, 4)))})


def decomposition(g, data):
    bags, links = a_tuple(data, 2)
    sets = [g.members(bag) for bag in a_tuple(bags)]
    need(sets and all(sets))
    for link in a_tuple(links):
        i, j = a_tuple(link, 2)
        need(0 <= an_integer(i) < an_integer(j) < len(sets))
    ascending(links)
    pairs = [set(link) for link in links]
    need(len(links) == len(bags) - 1 and reach(list(range(len(bags))), pairs) == set(range(len(bags))))
    need(all(any(set(edge) <= bag for bag in sets) for edge in g.edges))
    for v in g.vertices:
        homes = [at for at, bag in enumerate(sets) if v in bag]
        need(homes and reach(homes, [pair for pair in pairs if pair <= set(homes)]) == set(homes))
    return max(len(bag) for bag in sets) - 1


def width_yes(g, k, data):
    return decomposition(g, data) <= k


def width_no(g, k, data):
    sets = [g.members(part) for part in a_tuple(data)]
    need(sets and all(len(g.parts(part)) == 1 for part in sets))
    for p, q in combinations(sets, 2):
        need(p & q or any(g.joined(u, v) for u in p for v in q))
    for members in combinations(g.vertices, min(k + 1, g.n)):
        need(not all(part & set(members) for part in sets))


def colours_yes(g, k, data):
    for colour in a_tuple(data, g.n):
        need(0 <= an_integer(colour) < k)
    return all(data[u] != data[v] for u, v in g.edges)


def colours_no(g, k, data):
    colour_search(g, set(g.vertices), {frozenset(edge) for edge in g.edges}, k, data)


def colour_search(g, vertices, edges, k, data):
    need(len(a_tuple(data)) in (2, 5) and type(data[0]) is str)
    if len(data) == 2:
        need(data[0] == "clique" and len(g.members(data[1])) == k + 1 and set(data[1]) <= vertices)
        need(all(frozenset(pair) in edges for pair in combinations(data[1], 2)))
        return
    word, u, v, same, different = data
    need(word == "split" and g.vertex(u) < g.vertex(v) and {u, v} <= vertices and frozenset((u, v)) not in edges)
    merged = {frozenset(u if w == v else w for w in edge) for edge in edges}
    colour_search(g, vertices - {v}, merged, k, same)
    colour_search(g, vertices, edges | {frozenset((u, v))}, k, different)


def independent_yes(g, k, data):
    return len(g.members(data)) == k and g.independent(data)


def independent_no(g, k, data):
    set_search(g, set(g.vertices), k, data)


def set_search(g, members, k, data):
    need(len(a_tuple(data)) in (2, 4) and type(data[0]) is str)
    if len(data) == 2:
        need(data[0] == "cover" and len(a_tuple(data[1])) < k)
        cliques = [g.members(part) for part in data[1]]
        need(all(cliques) and all(g.clique(part) for part in cliques) and set().union(*cliques) == members)
        return
    word, v, taken, left = data
    need(word == "take" and g.vertex(v) in members)
    set_search(g, members - {v} - g.near[v], k - 1, taken)
    set_search(g, members - {v}, k, left)


def matching_yes(g, k, data):
    return len(g.edge_tuple(data)) == k and all(not set(p) & set(q) for p, q in combinations(data, 2))


def matching_no(g, k, data):
    members = g.members(data)
    odd = [part for part in g.parts(set(g.vertices) - members) if len(part) % 2]
    return (g.n + len(members) - len(odd)) // 2 < k


def isomorphic_yes(g, other, data):
    order = g.order(data)
    h = Graph(other)
    need(g.n == h.n)
    return all(g.joined(u, v) is h.joined(order[u], order[v]) for u, v in combinations(g.vertices, 2))


def isomorphic_no(g, other, data):
    h = Graph(other)
    if (g.n, len(g.edges)) != (h.n, len(h.edges)):
        need(len(a_tuple(data)) == 1 and type(data[0]) is str and data[0] == "sizes")
        return
    pairing_search(g, h, [], data)


def pairing_search(g, h, pairs, data):
    need(len(a_tuple(data)) in (1, 2, 3) and type(data[0]) is str)
    if data[0] == "try":
        word, v, searches = a_tuple(data, 3)
        others = [w for w in h.vertices if w not in [b for _, b in pairs]]
        need(g.vertex(v) not in [a for a, _ in pairs] and len(a_tuple(searches)) == len(others))
        for w, search in zip(others, searches):
            pairing_search(g, h, pairs + [(v, w)], search)
        return
    need(pairs)
    v, w = pairs[-1]
    if data[0] == "near":
        d = an_integer(a_tuple(data, 2)[1])
        need(len([u for u in g.near[v] if len(g.near[u]) == d]) != len([u for u in h.near[w] if len(h.near[u]) == d]))
    elif data[0] == "degree":
        a_tuple(data, 1)
        need(len(g.near[v]) != len(h.near[w]))
    else:
        need(data[0] == "clash" and len(data) == 1)
        need(any(g.joined(a, v) is not h.joined(b, w) for a, b in pairs[:-1]))
