import unittest
from itertools import combinations, product

import papers
from helpers import all_pairs, graphs_of_size, sets_of, small_graphs
from trellis.errors import BadGraph
from trellis.families import cycle_graph, full_graph, path_graph, two_sided
from trellis.graphs import beside, complement, made_graph
from trellis.modules import is_module, least_module, module_tree, strong_modules, tree_graph

PATH_4 = path_graph(4)
# A path of four vertices in which the vertex 1 is replaced by two neighbours, and the vertex 3 by two others.
PUT_IN = made_graph(6, [(0, 1), (0, 2), (1, 2), (1, 3), (2, 3), (3, 4), (3, 5)])
# Paths of four vertices side by side, one of them in place of a vertex of another one.
NESTED = made_graph(7, [(0, 1), (1, 2), (2, 3), (3, 4), (4, 5), (3, 6), (4, 6), (5, 6), (2, 4), (2, 5)])


def joined(graph, u, v):
    return (u, v) in graph[1] or (v, u) in graph[1]


def right_module(graph, members):
    outside = [v for v in range(graph[0]) if v not in members]
    return len(members) > 0 and all(len({joined(graph, u, v) for u in members}) == 1 for v in outside)


def right_modules(graph):
    return [members for members in sets_of(graph[0]) if right_module(graph, members)]


def right_strong(graph):
    modules = [set(members) for members in right_modules(graph)]
    strong = [a for a in modules if all(a <= b or b <= a or not a & b for b in modules)]
    return sorted(tuple(sorted(a)) for a in strong)


def leaves(tree):
    return [tree] if type(tree) is int else [v for part in tree[1:] for v in leaves(part)]


def nodes(tree):
    return [tree] if type(tree) is int else [tree] + [node for part in tree[1:] for node in nodes(part)]


def right_tree(graph, members=None):
    """The tree of the strong modules, by what the document says of it."""
    members = tuple(range(graph[0])) if members is None else members
    if len(members) == 1:
        return members[0]
    inside = [set(other) for other in right_strong(graph) if set(other) < set(members)]
    largest = sorted(tuple(sorted(a)) for a in inside if not any(a < b for b in inside))
    pairs = {joined(graph, a[0], b[0]) for a, b in combinations(largest, 2)}
    word = "prime" if len(pairs) == 2 else "join" if pairs == {True} else "union"
    return (word, *[right_tree(graph, part) for part in largest])


def sample():
    return small_graphs() + graphs_of_size(5)[::17] + [PUT_IN, NESTED, cycle_graph(6), two_sided(3, 4)]


class Modules(unittest.TestCase):
    def test_all_sets(self):
        for graph in sample():
            modules = right_modules(graph)
            for members in sets_of(graph[0]):
                self.assertIs(is_module(graph, members), members in modules, (graph, members))

    def test_single_vertices_all_vertices_and_none(self):
        for graph in ((1, ()), (60, ()), full_graph(60), path_graph(60), PATH_4):
            n = graph[0]
            self.assertIs(is_module(graph, tuple(range(n))), True)
            self.assertIs(is_module(graph, (n - 1,)), True)
            self.assertIs(is_module(graph, ()), False)

    def test_many_vertices(self):
        self.assertIs(is_module(full_graph(60), (0, 59)), True)
        self.assertIs(is_module((60, ()), (0, 30, 59)), True)
        self.assertIs(is_module(path_graph(60), tuple(range(59))), False)
        self.assertIs(is_module(two_sided(30, 30), tuple(range(30))), True)
        self.assertIs(is_module(two_sided(30, 30), tuple(range(31))), False)

    def test_least_modules(self):
        for graph in sample():
            modules = [set(members) for members in right_modules(graph)]
            for members in sets_of(graph[0])[1:]:
                right = set.intersection(*[other for other in modules if set(members) <= other])
                self.assertEqual(least_module(graph, members), tuple(sorted(right)))

    def test_least_modules_of_many_vertices(self):
        self.assertEqual(least_module(path_graph(60), (0, 1)), tuple(range(60)))
        self.assertEqual(least_module(full_graph(60), (7, 59)), (7, 59))
        self.assertEqual(least_module(two_sided(30, 30), (0, 59)), tuple(range(60)))
        self.assertEqual(least_module(two_sided(30, 30), (3, 29)), (3, 29))
        self.assertEqual(least_module((1, ()), (0,)), (0,))


class StrongModules(unittest.TestCase):
    def test_all_small_graphs(self):
        for graph in sample():
            found = strong_modules(graph)
            self.assertEqual(found, right_strong(graph))
            self.assertEqual({type(found), type(found[0])}, {list, tuple})

    def test_one_and_two_vertices(self):
        self.assertEqual(strong_modules((1, ())), [(0,)])
        self.assertEqual(strong_modules((2, ())), [(0,), (0, 1), (1,)])

    def test_many_vertices(self):
        singles = [(v,) for v in range(60)]
        whole = tuple(range(60))
        for graph in ((60, ()), full_graph(60), path_graph(60), cycle_graph(60)):
            self.assertEqual(strong_modules(graph), sorted(singles + [whole]))
        sides = [tuple(range(30)), tuple(range(30, 60))]
        self.assertEqual(strong_modules(two_sided(30, 30)), sorted(singles + [whole] + sides))

    def test_a_graph_in_place_of_a_vertex(self):
        singles = [(v,) for v in range(6)]
        self.assertEqual(strong_modules(PUT_IN), sorted(singles + [(1, 2), (4, 5), (0, 1, 2, 3, 4, 5)]))

    def test_the_list_is_new(self):
        graph = PUT_IN
        right = right_strong(graph)
        found = strong_modules(graph)
        found.clear()
        found = strong_modules(graph)
        self.assertEqual(found, right)
        found.append("more")
        found[0] = ()
        self.assertEqual(strong_modules(graph), right)
        self.assertEqual(module_tree(graph), right_tree(graph))


class ModuleTree(unittest.TestCase):
    def test_the_examples(self):
        self.assertEqual(module_tree(PATH_4), ("prime", 0, 1, 2, 3))
        self.assertEqual(module_tree(path_graph(3)), ("join", ("union", 0, 2), 1))

    def test_all_small_graphs(self):
        for graph in sample():
            self.assertEqual(module_tree(graph), right_tree(graph))

    def test_one_and_two_vertices(self):
        self.assertEqual(module_tree((1, ())), 0)
        self.assertEqual(module_tree((2, ())), ("union", 0, 1))
        self.assertEqual(module_tree((2, ((0, 1),))), ("join", 0, 1))

    def test_graphs_that_are_not_connected(self):
        graph = beside(PATH_4, path_graph(3))
        self.assertEqual(module_tree(graph), ("union", ("prime", 0, 1, 2, 3), ("join", ("union", 4, 6), 5)))
        self.assertEqual(
            module_tree(complement(graph)), ("join", ("prime", 0, 1, 2, 3), ("union", ("join", 4, 6), 5))
        )
        self.assertEqual(module_tree((4, ((1, 3),))), ("union", 0, ("join", 1, 3), 2))

    def test_a_graph_in_place_of_a_vertex(self):
        self.assertEqual(module_tree(PUT_IN), ("prime", 0, ("join", 1, 2), 3, ("union", 4, 5)))

    def test_many_vertices(self):
        self.assertEqual(module_tree(full_graph(60)), ("join", *range(60)))
        self.assertEqual(module_tree((60, ())), ("union", *range(60)))
        self.assertEqual(module_tree(cycle_graph(60)), ("prime", *range(60)))
        self.assertEqual(module_tree(two_sided(30, 30)), ("join", ("union", *range(30)), ("union", *range(30, 60))))

    def test_the_deepest_tree(self):
        graph = made_graph(60, [(u, v) for v in range(1, 60, 2) for u in range(v)])
        tree = 0
        for v in range(1, 60):
            tree = ("join" if v % 2 else "union", tree, v)
        self.assertEqual(module_tree(graph), tree)
        self.assertEqual(tree_graph(60, tree), graph)


class TreeGraph(unittest.TestCase):
    def refuses(self, n, tree):
        with self.assertRaises(BadGraph):
            tree_graph(n, tree)

    def right(self, n, tree):
        """Neighbours by the innermost node, found among all nodes."""
        def word(u, v):
            around = [node for node in nodes(tree) if {u, v} <= set(leaves(node))]
            return min(around, key=lambda node: len(leaves(node)))[0]
        return n, tuple((u, v) for u, v in all_pairs(n) if word(u, v) == "join")

    def test_all_trees_of_at_most_four_vertices(self):
        for n in range(1, 5):
            for tree in papers.trees(tuple(range(n))):
                self.assertEqual(tree_graph(n, tree), self.right(n, tree), tree)

    def test_any_order_and_equal_words_within_each_other(self):
        for tree in (("join", 3, ("join", 2, 0), 1), ("union", ("join", 4, 1), ("union", 2, ("join", 0, 3)))):
            n = len(leaves(tree))
            self.assertEqual(tree_graph(n, tree), self.right(n, tree))

    def test_trees_of_modules_give_the_graph_back(self):
        for graph in sample():
            tree = module_tree(graph)
            if "prime" not in [node[0] for node in nodes(tree) if type(node) is tuple]:
                self.assertEqual(tree_graph(graph[0], tree), graph)

    def test_a_single_vertex(self):
        self.assertEqual(tree_graph(1, 0), (1, ()))
        for n, tree in ((1, 1), (1, -1), (2, 0), (2, 1), (60, 59), (0, 0)):
            self.refuses(n, tree)

    def test_numbers_of_vertices(self):
        self.assertEqual(tree_graph(60, ("join", *range(60))), full_graph(60))
        self.assertEqual(tree_graph(60, ("union", *range(60))), (60, ()))
        for n in (0, 61, 62, -1, -60, 10 ** 30):
            for tree in (0, ("join", 0, 1), ("join", *range(60)), ("union", *range(61)), ("join", *range(62))):
                self.refuses(n, tree)

    def test_a_vertex_that_is_missing(self):
        for tree in (("join", 0, 1), ("union", 0, 2), ("join", 1, 2), 0):
            self.refuses(3, tree)
        self.refuses(60, ("join", *range(59)))
        self.refuses(60, ("join", *range(1, 60)))

    def test_a_vertex_that_occurs_twice(self):
        for tree in (("join", 0, 1, 2, 0), ("join", 0, ("union", 1, 0), 2), ("union", ("join", 0, 1), ("join", 1, 2)),
                     ("join", 0, 0, 0), ("join", ("union", 0, 1), ("union", 1, 2), 0)):
            self.refuses(3, tree)

    def test_a_number_that_is_no_vertex(self):
        for v in (3, 60, -1, 10 ** 30):
            for tree in (("join", 0, 1, v), ("join", 0, 1, 2, v), ("join", ("union", v, 0), 1, 2), v):
                self.refuses(3, tree)

    def test_a_deep_tree_with_a_vertex_that_occurs_twice(self):
        tree = 0
        for _ in range(5000):
            tree = ("join", 0, tree)
        self.refuses(2, tree)
        self.refuses(60, tree)

    def test_every_pair_of_small_trees(self):
        for first, second in product(papers.trees((0, 2)), papers.trees((1, 3))):
            for word in ("union", "join"):
                tree = (word, first, second)
                self.assertEqual(tree_graph(4, tree), self.right(4, tree))
