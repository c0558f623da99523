import unittest

from helpers import all_pairs
from trellis.errors import BadGraph
from trellis.families import cycle_graph, full_graph, grid_graph, path_graph, two_sided
from trellis.graphs import is_graph

SIZES = range(1, 61)
NO_SIZES = (0, 61, 62, 10 ** 30)


class OneNumber(unittest.TestCase):
    def test_paths(self):
        self.assertEqual(path_graph(1), (1, ()))
        self.assertEqual(path_graph(2), (2, ((0, 1),)))
        self.assertEqual(path_graph(3), (3, ((0, 1), (1, 2))))
        for n in SIZES:
            self.assertEqual(path_graph(n), (n, tuple((i, i + 1) for i in range(n - 1))))

    def test_cycles(self):
        self.assertEqual(cycle_graph(3), (3, ((0, 1), (0, 2), (1, 2))))
        self.assertEqual(cycle_graph(4), (4, ((0, 1), (0, 3), (1, 2), (2, 3))))
        for n in SIZES[2:]:
            edges = sorted([(i, i + 1) for i in range(n - 1)] + [(0, n - 1)])
            self.assertEqual(cycle_graph(n), (n, tuple(edges)))

    def test_cycles_have_at_least_three_vertices(self):
        for n in (1, 2):
            with self.assertRaises(BadGraph):
                cycle_graph(n)

    def test_full_graphs(self):
        self.assertEqual(full_graph(1), (1, ()))
        self.assertEqual(full_graph(2), (2, ((0, 1),)))
        self.assertEqual(full_graph(3), (3, ((0, 1), (0, 2), (1, 2))))
        for n in SIZES:
            self.assertEqual(full_graph(n), (n, tuple(all_pairs(n))))

    def test_no_vertex_or_more_than_sixty(self):
        for family in (path_graph, cycle_graph, full_graph):
            for n in NO_SIZES:
                with self.assertRaises(BadGraph):
                    family(n)


class TwoNumbers(unittest.TestCase):
    def test_two_sides(self):
        self.assertEqual(two_sided(2, 3), (5, ((0, 2), (0, 3), (0, 4), (1, 2), (1, 3), (1, 4))))
        self.assertEqual(two_sided(1, 1), (2, ((0, 1),)))
        for a in range(8):
            for b in range(8):
                if a + b > 0:
                    edges = [(u, v) for u, v in all_pairs(a + b) if u < a <= v]
                    self.assertEqual(two_sided(a, b), (a + b, tuple(edges)))

    def test_a_side_of_no_vertices(self):
        for n in (1, 2, 3, 60):
            self.assertEqual(two_sided(0, n), (n, ()))
            self.assertEqual(two_sided(n, 0), (n, ()))

    def test_two_sides_of_sixty_vertices(self):
        for a in (1, 30, 59):
            found = two_sided(a, 60 - a)
            self.assertIs(is_graph(found), True)
            self.assertEqual((found[0], len(found[1])), (60, a * (60 - a)))

    def test_two_sides_of_no_vertex_or_more_than_sixty(self):
        for a, b in ((0, 0), (0, 61), (61, 0), (30, 31), (60, 1), (1, 60), (10 ** 30, 0), (10 ** 30, 10 ** 30)):
            with self.assertRaises(BadGraph):
                two_sided(a, b)

    def test_grids(self):
        self.assertEqual(grid_graph(1, 1), (1, ()))
        self.assertEqual(grid_graph(2, 3), (6, ((0, 1), (0, 3), (1, 2), (1, 4), (2, 5), (3, 4), (4, 5))))
        self.assertEqual(grid_graph(3, 2), (6, ((0, 1), (0, 2), (1, 3), (2, 3), (2, 4), (3, 5), (4, 5))))
        for rows in range(1, 8):
            for columns in range(1, 9):
                self.assertEqual(grid_graph(rows, columns), (rows * columns, self.right_edges(rows, columns)))

    def right_edges(self, rows, columns):
        places = [(i, j) for i in range(rows) for j in range(columns)]
        return tuple(
            (u, v) for u, v in all_pairs(len(places))
            if abs(places[u][0] - places[v][0]) + abs(places[u][1] - places[v][1]) == 1
        )

    def test_grids_of_sixty_vertices(self):
        for rows, columns in ((1, 60), (60, 1), (6, 10), (10, 6)):
            self.assertEqual(grid_graph(rows, columns), (60, self.right_edges(rows, columns)))

    def test_grids_of_no_vertex_or_more_than_sixty(self):
        large = 10 ** 30
        for rows, columns in ((0, 0), (0, 5), (5, 0), (0, large), (large, 0), (61, 1), (1, 61), (8, 8), (large, large)):
            with self.assertRaises(BadGraph):
                grid_graph(rows, columns)
