import unittest
from itertools import combinations

from helpers import all_pairs, graphs_of_size, sets_of, small_graphs
from trellis.families import cycle_graph, full_graph, grid_graph, path_graph, two_sided
from trellis.graphs import beside, made_graph, renamed
from trellis.sparse import core_numbers, densest

PARTLY_DENSE = beside(full_graph(6), path_graph(10))


def inside(graph, members):
    return len([edge for edge in graph[1] if set(edge) <= set(members)])


def least_degree(graph, members):
    return min(len([u for u in members if tuple(sorted((u, v))) in graph[1]]) for v in members)


class CoreNumbers(unittest.TestCase):
    def test_the_example(self):
        self.assertEqual(core_numbers((5, ((0, 1), (0, 2), (1, 2), (2, 3)))), [2, 2, 2, 1, 0])

    def test_all_small_graphs(self):
        for graph in small_graphs() + graphs_of_size(5)[::9]:
            sets = sets_of(graph[0])[1:]
            right = [max(least_degree(graph, x) for x in sets if v in x) for v in range(graph[0])]
            self.assertEqual(core_numbers(graph), right, graph)

    def test_graphs_without_edges_and_full_ones(self):
        for n in (1, 2, 60):
            self.assertEqual(core_numbers((n, ())), [0] * n)
            self.assertEqual(core_numbers(full_graph(n)), [n - 1] * n)

    def test_a_dense_part_beside_a_sparse_one(self):
        self.assertEqual(core_numbers(PARTLY_DENSE), [5] * 6 + [1] * 10)
        self.assertEqual(core_numbers(beside(path_graph(10), full_graph(6))), [1] * 10 + [5] * 6)

    def test_known_graphs(self):
        self.assertEqual(core_numbers(path_graph(60)), [1] * 60)
        self.assertEqual(core_numbers(cycle_graph(60)), [2] * 60)
        self.assertEqual(core_numbers(grid_graph(6, 10)), [2] * 60)
        self.assertEqual(core_numbers(two_sided(3, 57)), [3] * 60)
        self.assertEqual(core_numbers(two_sided(57, 3)), [3] * 60)
        tail = made_graph(8, [(0, 1), (0, 2), (1, 2), (2, 3), (3, 4), (4, 5), (5, 6), (4, 6)])
        self.assertEqual(core_numbers(tail), [2, 2, 2, 2, 2, 2, 2, 0])

    def test_the_list_is_new(self):
        graph = path_graph(3)
        core_numbers(graph).clear()
        self.assertEqual(core_numbers(graph), [1, 1, 1])
        self.assertIs(type(core_numbers(graph)), list)


class Densest(unittest.TestCase):
    def right(self, graph, edges, vertices):
        """The set that is found has the ratio of so many edges to so many vertices."""
        found = densest(graph)
        self.assertIs(type(found), tuple)
        self.assertTrue(found and list(found) == sorted(set(found)) and 0 <= found[0] and found[-1] < graph[0], found)
        self.assertEqual(inside(graph, found) * vertices, edges * len(found), (graph, found))

    def test_all_small_graphs(self):
        for graph in small_graphs() + graphs_of_size(5)[::5]:
            sets = sets_of(graph[0])[1:]
            best = sets[0]
            for members in sets:
                if inside(graph, members) * len(best) > inside(graph, best) * len(members):
                    best = members
            self.right(graph, inside(graph, best), len(best))

    def test_graphs_without_edges(self):
        for n in (1, 2, 60):
            self.right((n, ()), 0, 1)

    def test_full_graphs(self):
        for n in (2, 3, 59, 60):
            self.right(full_graph(n), n - 1, 2)
            self.assertEqual(densest(full_graph(n)), tuple(range(n)))

    def test_a_dense_part_beside_a_sparse_one(self):
        self.right(PARTLY_DENSE, 15, 6)
        self.assertEqual(densest(PARTLY_DENSE), (0, 1, 2, 3, 4, 5))
        turned = renamed(PARTLY_DENSE, tuple((7 * v + 3) % 16 for v in range(16)))
        self.right(turned, 15, 6)
        self.right(beside(full_graph(5), two_sided(5, 7)), 35, 12)
        self.right(beside(full_graph(30), full_graph(30)), 29, 2)
        self.right(beside(full_graph(29), full_graph(31)), 15, 1)

    def test_a_dense_part_within_a_graph(self):
        rim = [(v, v + 1) for v in range(10, 59)] + [(0, 10), (4, 59)]
        self.right(made_graph(60, list(combinations(range(10), 2)) + rim), 45, 10)
        self.right(made_graph(60, [(0, v) for v in range(1, 60)] + all_pairs(4)), 3, 2)
        self.right(made_graph(60, [(0, v) for v in range(1, 60)] + all_pairs(3)), 1, 1)

    def test_known_graphs(self):
        self.right(path_graph(60), 59, 60)
        self.right(cycle_graph(60), 1, 1)
        self.right(grid_graph(6, 10), 104, 60)
        self.right(two_sided(3, 57), 171, 60)
