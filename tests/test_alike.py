import unittest
from itertools import permutations

import naive
from helpers import drawn_graphs, drawn_order, graphs_of_size, small_graphs
from trellis.alike import canonical, rounds_of_degrees, symmetries
from trellis.families import cycle_graph, full_graph, grid_graph, path_graph, two_sided
from trellis.graphs import beside, complement, is_graph, made_graph, renamed

GRAPHS = small_graphs() + graphs_of_size(5)[::5] + drawn_graphs(31, (6,), 20)
PETERSEN = made_graph(
    10, [edge for i in range(5) for edge in ((i, (i + 1) % 5), (i, i + 5), (i + 5, (i + 2) % 5 + 5))]
)
# The least tree and the least graph with a cycle that nothing but the order that moves nothing renames to themselves.
STIFF_TREE = made_graph(7, [(0, 1), (1, 2), (2, 3), (3, 4), (4, 5), (2, 6)])
STIFF = made_graph(6, [(0, 1), (1, 2), (2, 3), (3, 4), (1, 5), (2, 5)])


def moved(graph, order):
    return graph[0], tuple(sorted(tuple(sorted((order[u], order[v]))) for u, v in graph[1]))


class RoundsOfDegrees(unittest.TestCase):
    def test_the_example(self):
        self.assertEqual(rounds_of_degrees((4, ((0, 1), (1, 2)))), [[1, 2, 1, 0], [0, 1, 0, 2]])

    def right_rounds(self, graph):
        g = naive.Graph(graph)
        rounds = [[len(g.near[v]) for v in g.vertices]]
        while len(rounds) < 2 or len(set(rounds[-1])) != len(set(rounds[-2])):
            last = rounds[-1]
            looks = [(last[v], sorted(last[u] for u in g.near[v])) for v in g.vertices]
            firsts = [v for v in g.vertices if looks[v] not in looks[:v]]
            rounds.append([[looks[u] for u in firsts].index(look) for look in looks])
        return rounds

    def test_all_graphs(self):
        for graph in GRAPHS + drawn_graphs(32, (8, 20, 60), 10):
            self.assertEqual(rounds_of_degrees(graph), self.right_rounds(graph), graph)

    def test_graphs_whose_vertices_all_have_the_same_degree(self):
        for graph, degree in ((cycle_graph(7), 2), (full_graph(5), 4), ((6, ()), 0), (PETERSEN, 3), ((1, ()), 0)):
            n = graph[0]
            self.assertEqual(rounds_of_degrees(graph), [[degree] * n, [0] * n])

    def test_several_rounds(self):
        self.assertEqual(rounds_of_degrees(path_graph(7)), [
            [1, 2, 2, 2, 2, 2, 1], [0, 1, 2, 2, 2, 1, 0], [0, 1, 2, 3, 2, 1, 0], [0, 1, 2, 3, 2, 1, 0],
        ])
        self.assertEqual(len(rounds_of_degrees(path_graph(60))), 30)

    def test_the_lists_are_new(self):
        graph = path_graph(3)
        found = rounds_of_degrees(graph)
        found[0].clear()
        self.assertEqual(rounds_of_degrees(graph), [[1, 2, 1], [0, 1, 0]])
        self.assertIsNot(rounds_of_degrees((2, ()))[0], rounds_of_degrees((2, ()))[1])


class Symmetries(unittest.TestCase):
    def test_all_graphs(self):
        for graph in GRAPHS:
            right = [order for order in permutations(range(graph[0])) if moved(graph, order) == graph]
            self.assertEqual(symmetries(graph), right, graph)

    def test_graphs_without_a_symmetry(self):
        for graph in (STIFF, STIFF_TREE, (1, ())):
            self.assertEqual(symmetries(graph), [tuple(range(graph[0]))])

    def test_known_numbers(self):
        for graph, many in ((cycle_graph(12), 24), (path_graph(60), 2), (full_graph(6), 720), ((6, ()), 720),
                            (two_sided(3, 4), 144), (PETERSEN, 120), (grid_graph(3, 3), 8), (grid_graph(6, 10), 4)):
            found = symmetries(graph)
            self.assertIs(type(found), list)
            self.assertEqual(found, sorted(set(found)))
            self.assertEqual(len(found), many)
            for order in found[::11]:
                self.assertEqual(renamed(graph, order), graph)

    def test_full_graphs_of_eight(self):
        self.assertEqual(len(symmetries(full_graph(8))), 40320)
        self.assertEqual(len(symmetries(two_sided(4, 4))), 1152)


class Canonical(unittest.TestCase):
    def test_all_graphs(self):
        for graph in GRAPHS:
            self.assertEqual(canonical(graph), min(moved(graph, order) for order in permutations(range(graph[0]))))

    def test_the_same_for_renamed_graphs(self):
        graphs = drawn_graphs(33, (7, 8, 12), 12) + [
            PETERSEN, cycle_graph(8), two_sided(4, 4), grid_graph(2, 4), complement(cycle_graph(8)), STIFF_TREE,
            beside(cycle_graph(3), cycle_graph(5)), full_graph(8), (8, ()), cycle_graph(60), full_graph(60),
        ]
        for graph in graphs:
            least = canonical(graph)
            self.assertTrue(is_graph(least))
            self.assertLessEqual(least, graph)
            for seed in range(4):
                self.assertEqual(canonical(renamed(graph, drawn_order(seed, graph[0]))), least)
            self.assertEqual(canonical(least), least)

    def test_as_many_as_there_are_kinds_of_graphs(self):
        self.assertEqual([len({canonical(graph) for graph in graphs_of_size(n)}) for n in range(1, 6)],
                         [1, 2, 4, 11, 34])

    def test_known_graphs(self):
        self.assertEqual(canonical((3, ((1, 2),))), (3, ((0, 1),)))
        self.assertEqual(canonical(path_graph(4)), (4, ((0, 1), (0, 2), (1, 3))))
        self.assertEqual(canonical((1, ())), (1, ()))
        self.assertEqual(canonical((60, ((58, 59),))), (60, ((0, 1),)))
