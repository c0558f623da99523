import unittest

from answers import most_apart
from helpers import drawn_graphs, graphs_of_size, joined_by_walks, sets_of, small_graphs
from trellis.families import cycle_graph, full_graph, grid_graph, path_graph, two_sided
from trellis.graphs import beside, made_graph, renamed
from trellis.matchings import barrier, largest_matching

# Triangles and a cycle of five that meet, with tails.
MEETING = made_graph(
    14, [(0, 1), (0, 2), (1, 2), (2, 3), (3, 4), (4, 5), (5, 6), (2, 6), (6, 7), (7, 8), (6, 8), (8, 9), (9, 10),
         (10, 11), (11, 12), (12, 13), (11, 13)]
)


def bound(graph, members):
    """The number that a set allows for, by going through all sets of the other vertices that are components."""
    left = [v for v in range(graph[0]) if v not in members]
    odd = 0
    while left:
        part = {left[0]}
        while True:
            more = {v for a, b in graph[1] for u, v in ((a, b), (b, a)) if u in part and v in left} - part
            if not more:
                break
            part |= more
        odd += len(part) % 2
        left = [v for v in left if v not in part]
    return (graph[0] + len(members) - odd) // 2


class Matchings(unittest.TestCase):
    def right(self, graph, many):
        found = largest_matching(graph)
        self.assertIs(type(found), tuple)
        self.assertEqual(list(found), sorted(set(found)))
        self.assertLessEqual(set(found), set(graph[1]))
        ends = [v for edge in found for v in edge]
        self.assertEqual(len(set(ends)), len(ends))
        self.assertEqual(len(found), many, graph)
        members = barrier(graph)
        self.assertIs(type(members), tuple)
        self.assertTrue(all(type(v) is int and 0 <= v < graph[0] for v in members))
        self.assertEqual(list(members), sorted(set(members)))
        self.assertEqual(bound(graph, members), many, (graph, members))

    def test_all_small_graphs(self):
        for graph in small_graphs() + graphs_of_size(5):
            self.right(graph, most_apart([frozenset(edge) for edge in graph[1]]))

    def test_drawn_graphs(self):
        for graph in drawn_graphs(21, (6, 7, 8), 40) + drawn_graphs(22, (9, 10, 11), 12):
            edges = [frozenset(edge) for edge in graph[1]]
            if len(edges) < 26:
                self.right(graph, most_apart(edges))

    def test_sparse_larger_graphs(self):
        """A set that allows for no more edges than a matching has shows that both are right."""
        for graph in drawn_graphs(23, (20, 40, 60), 30):
            self.right(graph, len(largest_matching(graph)))

    def test_graphs_without_an_edge(self):
        for n in (1, 2, 60):
            self.right((n, ()), 0)

    def test_odd_cycles_that_meet(self):
        self.right(MEETING, 7)
        for at in range(12):
            order = tuple((5 * v + at) % 14 for v in range(14))
            self.right(renamed(MEETING, order), 7)
        flower = made_graph(11, [pair for v in range(1, 11, 2) for pair in ((0, v), (0, v + 1), (v, v + 1))])
        self.right(flower, 5)
        chain = made_graph(9, [pair for v in range(0, 8, 2) for pair in ((v, v + 1), (v, v + 2), (v + 1, v + 2))])
        self.right(chain, 4)
        star = made_graph(10, [(0, 1), (0, 4), (0, 7)] + [
            pair for v in (1, 4, 7) for pair in ((v, v + 1), (v, v + 2), (v + 1, v + 2))
        ])
        self.right(star, 4)

    def test_graphs_that_are_not_connected(self):
        self.right(beside(cycle_graph(5), cycle_graph(7)), 5)
        self.right(beside(full_graph(4), beside((2, ()), path_graph(3))), 3)
        self.right(beside(two_sided(2, 5), two_sided(4, 1)), 3)

    def test_known_graphs(self):
        for n in (2, 3, 7, 8, 59, 60):
            self.right(path_graph(n), n // 2)
            self.right(full_graph(n), n // 2)
        self.right(cycle_graph(59), 29)
        self.right(two_sided(20, 40), 20)
        self.right(two_sided(40, 20), 20)
        self.right(grid_graph(6, 10), 30)
        self.right(grid_graph(7, 7), 24)

    def test_sets_of_no_use_are_told_apart(self):
        """The second bound agrees with the definition of an odd component."""
        for graph in graphs_of_size(4)[::5]:
            for members in sets_of(4):
                rest = [v for v in range(4) if v not in members]
                parts = [part for part in sets_of(4) if set(part) <= set(rest) and joined_by_walks(graph, part)]
                largest = [part for part in parts if not any(set(part) < set(other) for other in parts)]
                odd = len([part for part in largest if len(part) % 2])
                self.assertEqual(bound(graph, members), (4 + len(members) - odd) // 2)
