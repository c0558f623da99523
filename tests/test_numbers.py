import unittest

import answers
from helpers import drawn_graphs, drawn_order, graphs_of_size, odd_values, small_graphs
from papers import NUMBERED, PLAIN
from trellis.checking import check
from trellis.errors import BadQuestion, NoNumber, TrellisError
from trellis.families import cycle_graph, full_graph, grid_graph, path_graph, two_sided
from trellis.graphs import beside, renamed
from trellis.numbers import number_of, paths_between, profile

LEAST = ("degenerate", "indegree", "forests", "width", "colours")
GREATEST = ("trees", "independent", "matching")
NAMES = {kind: letter for kind, letter in zip(
    ("degenerate", "indegree", "forests", "width", "colours", "independent", "matching"), "difwcab")}


class Tries(unittest.TestCase):
    def is_number(self, graph, beginning, found, least):
        """A number with right papers, one for each answer."""
        self.assertIs(type(found), tuple)
        k, paper, other = found
        self.assertIs(type(k), int)
        self.assertGreaterEqual(k, 0)
        self.assertEqual(paper[0], "yes")
        self.assertIs(check(graph, (*beginning, k), paper), True)
        if least and k == 0:
            self.assertIsNone(other)
        else:
            self.assertEqual(other[0], "no")
            self.assertIs(check(graph, (*beginning, k - 1 if least else k + 1), other), True)
        return k


class NumberOf(Tries):
    def number(self, graph, kind):
        return self.is_number(graph, (kind,), number_of(graph, kind), kind in LEAST)

    def test_the_example(self):
        self.assertEqual(number_of((3, ((0, 1), (0, 2), (1, 2))), "colours")[0], 3)

    def test_small_and_drawn_graphs(self):
        for graph in small_graphs() + graphs_of_size(5)[::13] + drawn_graphs(71, (6, 7), 6):
            for kind in NUMBERED:
                if kind != "trees" or graph[0] > 1:
                    k = self.number(graph, kind)
                    self.assertEqual(answers.answer(graph, (kind, k)), "yes")
                    if kind in GREATEST:
                        self.assertEqual(answers.answer(graph, (kind, k + 1)), "no")
                    elif k > 0:
                        self.assertEqual(answers.answer(graph, (kind, k - 1)), "no")

    def test_numbers_of_known_graphs(self):
        for graph, numbers in (
            ((1, ()), {"degenerate": 0, "indegree": 0, "forests": 0, "width": 0, "colours": 1, "independent": 1,
                       "matching": 0}),
            ((5, ()), {"degenerate": 0, "indegree": 0, "forests": 0, "trees": 0, "width": 0, "colours": 1,
                       "independent": 5, "matching": 0}),
            (full_graph(6), {"degenerate": 5, "indegree": 3, "forests": 3, "trees": 3, "width": 5, "colours": 6,
                             "independent": 1, "matching": 3}),
            (cycle_graph(7), {"degenerate": 2, "indegree": 1, "forests": 2, "trees": 1, "width": 2, "colours": 3,
                              "independent": 3, "matching": 3}),
            (path_graph(6), {"degenerate": 1, "indegree": 1, "forests": 1, "trees": 1, "width": 1, "colours": 2,
                             "independent": 3, "matching": 3}),
            (two_sided(3, 5), {"degenerate": 3, "indegree": 2, "forests": 3, "trees": 2, "width": 3, "colours": 2,
                               "independent": 5, "matching": 3}),
            (grid_graph(3, 4), {"degenerate": 2, "indegree": 2, "forests": 2, "trees": 1, "width": 3, "colours": 2,
                                "independent": 6, "matching": 6}),
        ):
            for kind, k in numbers.items():
                self.assertEqual(self.number(graph, kind), k, (graph, kind))

    def test_a_number_of_0(self):
        for kind in ("degenerate", "indegree", "forests", "width"):
            self.assertIsNone(number_of((3, ()), kind)[2])
        self.assertEqual(number_of((3, ()), "matching")[:2], (0, ("yes", ())))
        self.assertEqual(number_of((3, ()), "trees")[:2], (0, ("yes", ())))

    def test_one_vertex_has_no_number_for_trees(self):
        with self.assertRaises(NoNumber):
            number_of((1, ()), "trees")
        self.assertEqual(self.number((2, ()), "trees"), 0)
        self.assertEqual(self.number((2, ((0, 1),)), "trees"), 1)
        self.assertTrue(issubclass(NoNumber, TrellisError))

    def test_names_that_are_no_such_kinds(self):
        for graph in ((1, ()), path_graph(3)):
            for kind in [*odd_values(), *PLAIN, "linked", "isomorphic", "colour", "Colours", "", ("colours",), b"trees"]:
                with self.assertRaises(BadQuestion):
                    number_of(graph, kind)


class PathsBetween(Tries):
    def number(self, graph, s, t):
        return self.is_number(graph, ("linked", s, t), paths_between(graph, s, t), False)

    def test_all_pairs(self):
        for graph in small_graphs()[::3] + drawn_graphs(72, (5, 6), 8):
            for s in range(graph[0]):
                for t in range(graph[0]):
                    if s != t:
                        k = self.number(graph, s, t)
                        self.assertEqual(answers.answer(graph, ("linked", s, t, k)), "yes")
                        self.assertEqual(answers.answer(graph, ("linked", s, t, k + 1)), "no")

    def test_known_graphs(self):
        self.assertEqual(self.number(full_graph(6), 5, 2), 5)
        self.assertEqual(self.number(two_sided(3, 4), 0, 1), 4)
        self.assertEqual(self.number(two_sided(3, 4), 0, 3), 3)
        self.assertEqual(self.number((2, ()), 0, 1), 0)
        self.assertEqual(self.number((2, ((0, 1),)), 1, 0), 1)
        self.assertEqual(self.number(grid_graph(6, 10), 22, 37), 4)

    def test_what_are_no_two_vertices(self):
        for s, t in ((0, 0), (2, 2), (0, 3), (3, 0), (-1, 0), (0, -1), (5, 5), (-1, -1)):
            with self.assertRaises(BadQuestion):
                paths_between(path_graph(3), s, t)
        with self.assertRaises(BadQuestion):
            paths_between((1, ()), 0, 0)


class Profiles(unittest.TestCase):
    def test_the_example(self):
        self.assertEqual(profile((2, ((0, 1),)))["matching"], 1)

    def test_exactly_the_twenty_kinds(self):
        for graph in ((1, ()), path_graph(4), full_graph(5)):
            found = profile(graph)
            self.assertIs(type(found), dict)
            self.assertEqual(set(found), {*PLAIN, *NUMBERED})
            self.assertEqual(len(found), 20)
            for kind in PLAIN:
                self.assertEqual(found[kind], answers.answer(graph, (kind,)))
            for kind in NUMBERED:
                if kind != "trees" or graph[0] > 1:
                    self.assertEqual(found[kind], number_of(graph, kind)[0])
        self.assertIsNone(profile((1, ()))["trees"])
        self.assertEqual(profile((1, ()))["colours"], 1)

    def test_the_dictionary_is_new(self):
        profile((2, ())).clear()
        self.assertEqual(len(profile((2, ()))), 20)

    def test_equal_for_renamed_graphs(self):
        for seed, graph in enumerate(drawn_graphs(73, (4, 5, 6, 7), 8)):
            self.assertEqual(profile(graph), profile(renamed(graph, drawn_order(seed, graph[0]))), graph)

    def test_numbers_that_imply_others(self):
        """Point 11.2."""
        graphs = small_graphs() + graphs_of_size(5)[::11] + drawn_graphs(74, (6, 7), 30)
        for graph in graphs + [grid_graph(2, 4), beside(full_graph(3), full_graph(4)), path_graph(8)]:
            n = graph[0]
            found = profile(graph)
            d, i, f, w, c, a, b = [found[kind] for kind in NAMES]
            self.assertTrue(i <= f <= i + 1 and (f == 0) == (i == 0), graph)
            self.assertTrue(f <= d <= w and c <= d + 1 and a * c >= n and a + b <= n, graph)
            self.assertEqual(found["forest"] == "yes", f <= 1)
            if found["chordal"] == "yes":
                self.assertEqual(c, w + 1)
            if found["bipartite"] == "yes":
                self.assertTrue(c <= 2 and a + b == n, graph)
            if found["outerplanar"] == "yes":
                self.assertTrue(w <= 2 and found["planar"] == "yes", graph)
            if found["planar"] == "yes":
                self.assertTrue(d <= 5 and f <= 3, graph)
