import unittest
from itertools import combinations

import naive
from helpers import drawn_graphs, graphs_of_size, sets_of, small_graphs
from trellis.classes import arrow_classes, find_hole, forced_arrows
from trellis.families import cycle_graph, full_graph, grid_graph, path_graph, two_sided
from trellis.graphs import beside, complement, made_graph

WHEEL = made_graph(6, [(i, (i + 1) % 5) for i in range(5)] + [(i, 5) for i in range(5)])
GRAPHS = small_graphs() + graphs_of_size(5)[::6] + drawn_graphs(11, (6, 7, 8), 10)


def arrows_of(graph):
    return sorted(list(graph[1]) + [(v, u) for u, v in graph[1]])


def forces(g, arrow):
    a, b = arrow
    forced = [(a, c) for c in g.vertices if c != b and g.joined(a, c) and not g.joined(b, c)]
    return sorted(forced + [(c, b) for c in g.vertices if c != a and g.joined(c, b) and not g.joined(a, c)])


class Holes(unittest.TestCase):
    def has_hole(self, graph):
        hole = find_hole(graph)
        self.assertIs(type(hole), tuple)
        self.assertTrue(naive.right(graph, ("chordal",), ("no", hole)), (graph, hole))
        return hole

    def test_the_example(self):
        self.assertIsNone(find_hole((3, ((0, 1), (0, 2), (1, 2)))))

    def test_all_graphs(self):
        """A hole is a connected set of four or more vertices that have two neighbours each in it."""
        for graph in GRAPHS:
            g = naive.Graph(graph)
            holes = [
                part for part in sets_of(g.n) if len(part) > 3
                and len(g.parts(part)) == 1 and all(len(g.near[v] & set(part)) == 2 for v in part)
            ]
            if holes:
                self.assertIn(tuple(sorted(self.has_hole(graph))), holes)
            else:
                self.assertIsNone(find_hole(graph), graph)

    def test_holes_of_any_length(self):
        for n in (4, 5, 6, 7, 12, 60):
            self.assertEqual(sorted(self.has_hole(cycle_graph(n))), list(range(n)))
            if n < 60:
                shifted = beside(full_graph(3), beside(cycle_graph(n), (1, ())))
                self.assertEqual(sorted(self.has_hole(shifted)), list(range(3, 3 + n)))
        self.assertEqual(sorted(self.has_hole(WHEEL)), [0, 1, 2, 3, 4])
        self.has_hole(grid_graph(6, 10))
        self.has_hole(complement(cycle_graph(8)))

    def test_chords_in_every_cycle(self):
        """Cycles of four or more vertices, each with a chord."""
        fan = made_graph(8, [(0, v) for v in range(1, 8)] + [(v, v + 1) for v in range(1, 7)])
        square = made_graph(9, [(u, v) for u, v in combinations(range(9), 2) if v - u < 3])
        for graph in (fan, square, full_graph(9), path_graph(9), two_sided(1, 9), (1, ()), (9, ()), full_graph(60)):
            self.assertIsNone(find_hole(graph))
        self.has_hole(made_graph(9, list(square[1]) + [(0, 8)]))


class Forcing(unittest.TestCase):
    def test_the_example(self):
        self.assertEqual(forced_arrows((3, ((0, 1), (1, 2))), (0, 1)), [(2, 1)])

    def test_all_graphs(self):
        for graph in GRAPHS:
            g = naive.Graph(graph)
            for arrow in arrows_of(graph):
                found = forced_arrows(graph, arrow)
                self.assertIs(type(found), list)
                self.assertEqual(found, forces(g, arrow))

    def test_known_graphs(self):
        self.assertEqual(forced_arrows((2, ((0, 1),)), (1, 0)), [])
        self.assertEqual(forced_arrows(full_graph(6), (2, 5)), [])
        self.assertEqual(forced_arrows(cycle_graph(5), (0, 1)), [(0, 4), (2, 1)])
        self.assertEqual(forced_arrows(two_sided(1, 4), (0, 2)), [(0, 1), (0, 3), (0, 4)])
        self.assertEqual(forced_arrows(two_sided(1, 4), (2, 0)), [(1, 0), (3, 0), (4, 0)])


class ArrowClasses(unittest.TestCase):
    def test_all_graphs(self):
        for graph in GRAPHS:
            g = naive.Graph(graph)
            number = {arrow: at for at, arrow in enumerate(arrows_of(graph))}
            changed = True
            while changed:
                changed = False
                for arrow in arrows_of(graph):
                    for other in forces(g, arrow):
                        low = min(number[arrow], number[other])
                        changed = changed or number[arrow] != number[other]
                        number[arrow] = number[other] = low
            right = [tuple(a for a in arrows_of(graph) if number[a] == at) for at in sorted(set(number.values()))]
            self.assertEqual(arrow_classes(graph), right, graph)

    def test_known_graphs(self):
        self.assertEqual(arrow_classes((1, ())), [])
        self.assertEqual(arrow_classes((5, ())), [])
        self.assertEqual(arrow_classes((4, ((1, 3),))), [((1, 3),), ((3, 1),)])
        self.assertEqual(arrow_classes(path_graph(3)), [((0, 1), (2, 1)), ((1, 0), (1, 2))])
        self.assertEqual(arrow_classes(full_graph(4)), [(arrow,) for arrow in arrows_of(full_graph(4))])
        for n in (5, 7, 9):
            self.assertEqual(arrow_classes(cycle_graph(n)), [tuple(arrows_of(cycle_graph(n)))])
        for n in (4, 6, 8):
            towards = tuple(sorted((u, v) for u, v in arrows_of(cycle_graph(n)) if u % 2 == 0))
            self.assertEqual(arrow_classes(cycle_graph(n)), [towards, tuple(sorted((v, u) for u, v in towards))])

    def test_the_list_is_new(self):
        graph = path_graph(4)
        arrow_classes(graph).clear()
        forced_arrows(graph, (0, 1)).clear()
        self.assertEqual(len(arrow_classes(graph)), 2)
        self.assertEqual(forced_arrows(graph, (0, 1)), [(2, 1)])
