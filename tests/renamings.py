"""Papers of renamed vertices, a second time, written straight from the document and without the program."""

from itertools import combinations


def renamed_data(graph, question, answer, data, order):
    """The data of the renamed paper."""
    return globals()[f"{question[0]}_{answer}"](Names(graph, order), data)


class Names:
    def __init__(self, graph, order):
        self.n, self.edges = graph
        self.order = order
        self.back = {new: old for old, new in enumerate(order)}

    def row(self, data):
        return tuple(self.order[v] for v in data)

    def rows(self, data):
        return tuple(self.row(row) for row in data)

    def members(self, data):
        return tuple(sorted(self.row(data)))

    def sets(self, data):
        return tuple(self.members(part) for part in data)

    def edge(self, pair):
        return self.members(pair)

    def edge_tuple(self, data):
        return tuple(sorted(self.edge(pair) for pair in data))

    def parts(self, data):
        return tuple(self.edge_tuple(part) for part in data)

    def moved(self, data):
        return tuple(data[self.back[v]] for v in range(self.n))

    def arrows(self, data):
        new = {self.edge(edge): self.row(arrow) for edge, arrow in zip(self.edges, data)}
        return tuple(new[edge] for edge in sorted(new))


def as_set(g, data):
    return g.members(data)


def as_row(g, data):
    return g.row(data)


def as_rows(g, data):
    return g.rows(data)


def as_edges(g, data):
    return g.edge_tuple(data)


def as_parts(g, data):
    return g.parts(data)


def as_arrows(g, data):
    return g.arrows(data)


def as_items(g, data):
    return g.moved(data)


connected_no = bipartite_yes = linked_no = degenerate_no = indegree_no = forests_no = prime_no = as_set
independent_yes = matching_no = as_set
bipartite_no = forest_yes = forest_no = degenerate_yes = chordal_yes = chordal_no = cograph_no = as_row
outerplanar_yes = as_row
block_yes = linked_yes = comparability_no = permutation_yes = as_rows
connected_yes = matching_yes = as_edges
forests_yes = trees_yes = as_parts
indegree_yes = comparability_yes = as_arrows
interval_yes = colours_yes = isomorphic_yes = as_items


def block_no(g, data):
    removed, side = data
    return g.members(removed), g.members(side)


def trees_no(g, data):
    return tuple(sorted(g.sets(data)))


def interval_no(g, data):
    if data[0] == "hole":
        return "hole", g.row(data[1])
    word, a, b, c, p, q, r = data
    return word, g.order[a], g.order[b], g.order[c], g.row(p), g.row(q), g.row(r)


def permutation_no(g, data):
    return data[0], g.rows(data[1])


def cograph_yes(g, data):
    return g.order[data] if type(data) is int else (data[0], *[cograph_yes(g, part) for part in data[1:]])


def prime_yes(g, data):
    pairs = list(combinations(range(g.n), 2))
    old = dict(zip(pairs, data))
    return tuple(g.row(old[tuple(sorted((g.back[u], g.back[v])))]) for u, v in pairs)


def planar_yes(g, data):
    return g.rows(g.moved(data))


def planar_no(g, data):
    word, corners, paths = data
    return word, g.row(corners), g.rows(paths)


outerplanar_no = planar_no


def width_yes(g, data):
    bags, links = data
    return g.sets(bags), links


def width_no(g, data):
    return g.sets(data)


def colours_no(g, data):
    return colour_search(g, {v: {v} for v in range(g.n)}, data)


def colour_search(g, groups, data):
    new = {v: min(g.row(members)) for v, members in groups.items()}
    if data[0] == "clique":
        return "clique", tuple(sorted(new[v] for v in data[1]))
    word, u, v, same, different = data
    one = {w: members for w, members in groups.items() if w not in (u, v)}
    one[u] = groups[u] | groups[v]
    return (word, min(new[u], new[v]), max(new[u], new[v]), colour_search(g, one, same),
            colour_search(g, groups, different))


def independent_no(g, data):
    if data[0] == "cover":
        return "cover", g.sets(data[1])
    return "take", g.order[data[1]], independent_no(g, data[2]), independent_no(g, data[3])


def isomorphic_no(g, data):
    if data[0] == "try":
        return "try", g.order[data[1]], tuple(isomorphic_no(g, search) for search in data[2])
    return data
