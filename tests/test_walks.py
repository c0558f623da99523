import unittest
from itertools import combinations, permutations, product

from helpers import Same, Touchy, all_pairs, graphs_of_size, odd_values, small_graphs
from trellis.families import cycle_graph, full_graph, grid_graph, path_graph, two_sided
from trellis.graphs import beside, made_graph
from trellis.walks import distances, is_cycle, is_path, shortest_cycle, shortest_path

FULL_60 = (60, tuple(all_pairs(60)))
PETERSEN = made_graph(
    10, [edge for i in range(5) for edge in ((i, (i + 1) % 5), (i, i + 5), (i + 5, (i + 2) % 5 + 5))]
)
LONE_WITH_CYCLE = (6, ((1, 2), (1, 4), (2, 4), (3, 5)))


def rows(n):
    """All tuples of different vertices."""
    return [row for many in range(n + 1) for row in permutations(range(n), many)]


def joined(graph, u, v):
    return (u, v) in graph[1] or (v, u) in graph[1]


def right_path(graph, row):
    return len(row) > 0 and all(joined(graph, u, v) for u, v in zip(row, row[1:]))


def right_cycle(graph, row):
    return len(row) > 2 and all(joined(graph, row[at - 1], row[at]) for at in range(len(row)))


def least_length(graph, u, v, avoided=()):
    """The number of edges of the shortest path, by going through all paths, or -1."""
    paths = [row for row in rows(graph[0]) if row and row[0] == u and row[-1] == v and right_path(graph, row)]
    return min([len(path) - 1 for path in paths if not set(path) & set(avoided)], default=-1)


class Distances(unittest.TestCase):
    def test_the_example(self):
        self.assertEqual(distances((4, ((0, 1), (1, 2))), 0), [0, 1, 2, -1])

    def test_all_small_graphs(self):
        for graph in small_graphs():
            for v in range(graph[0]):
                self.assertEqual(distances(graph, v), [least_length(graph, v, w) for w in range(graph[0])])

    def test_many_vertices(self):
        self.assertEqual(distances(path_graph(60), 59), list(range(59, -1, -1)))
        self.assertEqual(distances(cycle_graph(60), 0), [min(v, 60 - v) for v in range(60)])
        self.assertEqual(distances(FULL_60, 7), [1] * 7 + [0] + [1] * 52)
        self.assertEqual(distances((60, ()), 30), [-1] * 30 + [0] + [-1] * 29)
        self.assertEqual(distances(grid_graph(6, 10), 0), [i + j for i in range(6) for j in range(10)])

    def test_graphs_that_are_not_connected(self):
        self.assertEqual(distances(LONE_WITH_CYCLE, 0), [0, -1, -1, -1, -1, -1])
        self.assertEqual(distances(LONE_WITH_CYCLE, 5), [-1, -1, -1, 1, -1, 0])
        self.assertEqual(distances((1, ()), 0), [0])

    def test_the_list_is_new(self):
        graph = (2, ((0, 1),))
        distances(graph, 0).append(5)
        self.assertEqual(distances(graph, 0), [0, 1])
        self.assertIs(type(distances(graph, 0)), list)


class ShortestPath(unittest.TestCase):
    def right(self, graph, u, v, avoided, length):
        given = list(avoided)
        found = shortest_path(graph, u, v, given)
        self.assertEqual(given, list(avoided))
        if length < 0:
            self.assertIsNone(found)
            return
        self.assertIs(type(found), tuple)
        self.assertTrue(right_path(graph, found) and len(set(found)) == len(found), found)
        self.assertEqual((found[0], found[-1], len(found) - 1), (u, v, length))
        self.assertFalse(set(found) & set(avoided))

    def test_all_small_graphs(self):
        for graph in small_graphs():
            n = graph[0]
            for u, v in product(range(n), repeat=2):
                others = [w for w in range(n) if w not in (u, v)]
                for many in range(len(others) + 1):
                    for avoided in combinations(others, many):
                        self.right(graph, u, v, avoided, least_length(graph, u, v, avoided))

    def test_equal_ends(self):
        for graph in ((1, ()), (3, ()), FULL_60):
            self.right(graph, 0, 0, [], 0)
        self.right(FULL_60, 5, 5, list(range(6, 60)), 0)

    def test_avoided_vertices_that_separate(self):
        self.right(path_graph(60), 0, 59, [30], -1)
        self.right(cycle_graph(60), 0, 30, [10], 30)
        self.right(cycle_graph(60), 0, 30, [10, 50], -1)
        self.right(cycle_graph(60), 0, 20, [10], 40)
        self.right(two_sided(2, 3), 0, 1, [2, 4], 2)
        self.right(two_sided(2, 3), 0, 1, [2, 3, 4], -1)
        self.right(grid_graph(3, 3), 0, 8, [4], 4)
        self.right(grid_graph(3, 3), 0, 8, [2, 4, 6], -1)

    def test_avoided_vertices_in_any_order_and_repeated(self):
        self.right(grid_graph(3, 3), 0, 2, [4, 1, 4, 1], 6)

    def test_neighbours_are_joined_whatever_is_avoided(self):
        self.right(FULL_60, 3, 50, [v for v in range(60) if v not in (3, 50)], 1)

    def test_graphs_that_are_not_connected(self):
        self.right(LONE_WITH_CYCLE, 0, 1, [], -1)
        self.right(LONE_WITH_CYCLE, 3, 5, [], 1)
        self.right(LONE_WITH_CYCLE, 1, 3, [], -1)


class PathsAndCycles(unittest.TestCase):
    def both(self, graph, value, path, cycle):
        self.assertIs(is_path(graph, value), path)
        self.assertIs(is_cycle(graph, value), cycle)

    def test_all_tuples_of_vertices_of_small_graphs(self):
        for graph in small_graphs():
            for row in rows(graph[0]):
                self.both(graph, row, right_path(graph, row), right_cycle(graph, row))

    def test_repeated_and_missing_vertices(self):
        for graph in (full_graph(3), path_graph(3), (1, ())):
            for many in range(5):
                for row in product(range(-1, 4), repeat=many):
                    fits = all(0 <= v < graph[0] for v in row) and len(set(row)) == len(row)
                    self.both(graph, row, fits and right_path(graph, row), fits and right_cycle(graph, row))

    def test_long_ones(self):
        whole = tuple(range(60))
        self.both(path_graph(60), whole, True, False)
        self.both(path_graph(60), whole[::-1], True, False)
        self.both(cycle_graph(60), whole, True, True)
        self.both(cycle_graph(60), whole[30:] + whole[:30], True, True)
        self.both(FULL_60, whole[::2] + whole[1::2], True, True)
        self.both(cycle_graph(60), whole + (0,), False, False)
        self.both(cycle_graph(60), whole[:59], True, False)
        self.both((60, ()), (59,), True, False)

    def test_other_values(self):
        graph = full_graph(4)
        for value in odd_values():
            right = value in ((0,), (0, 1, 2)) if type(value) is tuple else False
            self.both(graph, value, right, right and len(value) == 3)
        for value in ((), [0, 1, 2], [0], "012", {0: 1, 1: 2, 2: 0}, range(3), ((0, 1, 2),), ((0, 1), (1, 2)), 0, 1):
            self.both(graph, value, False, False)

    def test_other_values_in_place_of_a_vertex(self):
        graph = full_graph(4)
        for value in odd_values() + [(), (1,), (0, 1)]:
            for row in ((value,), (value, 2, 3), (2, value, 3), (2, 3, value)):
                self.both(graph, row, False, False)
        for value in (True, 1.0, "1", Same(), Touchy(), 4, -1, -3):
            self.both(graph, (0, value, 2), False, False)
        self.both(graph, (False, 1, 2), False, False)


class ShortestCycle(unittest.TestCase):
    def right(self, graph, length):
        found = shortest_cycle(graph)
        if length is None:
            self.assertIsNone(found)
            return
        self.assertIs(type(found), tuple)
        self.assertTrue(right_cycle(graph, found) and len(set(found)) == len(found), found)
        self.assertEqual(len(found), length)

    def test_all_graphs_with_at_most_five_vertices(self):
        five = [row for row in rows(5) if row and row[0] == min(row)]
        for graph in small_graphs() + graphs_of_size(5)[::3]:
            fits = [row for row in five if max(row) < graph[0]]
            self.right(graph, min([len(row) for row in fits if right_cycle(graph, row)], default=None))

    def test_graphs_without_a_cycle(self):
        for graph in ((1, ()), (60, ()), path_graph(60), two_sided(1, 59), (6, ((0, 3), (0, 4), (2, 5)))):
            self.right(graph, None)

    def test_long_and_short_cycles(self):
        self.right(cycle_graph(60), 60)
        self.right(FULL_60, 3)
        self.right(two_sided(30, 30), 4)
        self.right(grid_graph(6, 10), 4)
        self.right(PETERSEN, 5)
        self.right(beside(cycle_graph(9), cycle_graph(7)), 7)
        self.right(beside(cycle_graph(7), cycle_graph(9)), 7)
        self.right(beside(path_graph(5), cycle_graph(8)), 8)
        self.right(LONE_WITH_CYCLE, 3)
