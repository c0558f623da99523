import unittest
from itertools import combinations, permutations

import answers
import naive
from helpers import depth_of, drawn_graphs, drawn_order, graphs_of_size, odd_values, small_graphs
from papers import NUMBERED, PLAIN
from trellis.bags import order_width
from trellis.checking import check
from trellis.deciding import decide
from trellis.errors import BadQuestion, TrellisError
from trellis.families import cycle_graph, full_graph, grid_graph, path_graph, two_sided
from trellis.graphs import beside, complement, made_graph, renamed
from trellis.questions import KINDS
from trellis.texts import read_value, write_value

OTHER = {"yes": "no", "no": "yes"}
PETERSEN = made_graph(
    10, [edge for i in range(5) for edge in ((i, (i + 1) % 5), (i, i + 5), (i + 5, (i + 2) % 5 + 5))]
)
WAGNER = made_graph(8, [(i, (i + 1) % 8) for i in range(8)] + [(i, i + 4) for i in range(4)])
OCTAHEDRON = complement(made_graph(6, [(0, 1), (2, 3), (4, 5)]))
PRISM = made_graph(
    10, [edge for i in range(5) for edge in ((i, (i + 1) % 5), (i + 5, (i + 1) % 5 + 5), (i, i + 5))]
)
CUBE = made_graph(8, [(i, i ^ bit) for i in range(8) for bit in (1, 2, 4)])
SPIDER = (7, ((0, 1), (0, 2), (0, 3), (1, 4), (2, 5), (3, 6)))
TREE = made_graph(8, [(0, 1), (0, 2), (1, 3), (1, 4), (2, 5), (5, 6), (5, 7)])
# Triangles, a square and an edge that meet at the vertex 0, and an isolated vertex.
FLOWER = made_graph(9, [(0, 1), (0, 2), (1, 2), (0, 3), (3, 4), (4, 5), (0, 5), (0, 6), (6, 7), (0, 7)])
SHAPES = [
    (1, ()), (2, ()), (2, ((0, 1),)), (5, ()), (8, ()), full_graph(5), full_graph(6), full_graph(7), full_graph(8),
    cycle_graph(5), cycle_graph(6), cycle_graph(7), cycle_graph(8), path_graph(8), two_sided(1, 7), two_sided(3, 3),
    two_sided(2, 5), two_sided(4, 4), grid_graph(2, 4), TREE, SPIDER, OCTAHEDRON, WAGNER, CUBE, complement(CUBE),
    beside(full_graph(4), cycle_graph(4)), beside(full_graph(3), full_graph(5)), beside(TREE, (1, ())),
    complement(cycle_graph(6)), complement(cycle_graph(7)), complement(path_graph(6)), FLOWER,
]


def questions(graph, most=None):
    """All questions without a graph in them, with every number up to one more than there are vertices."""
    n = graph[0]
    found = [(kind,) for kind in PLAIN]
    found += [(kind, k) for kind in NUMBERED for k in range(n + 2)]
    pairs = list(permutations(range(n), 2))
    return found + [("linked", s, t, k) for s, t in pairs[::max(1, len(pairs) // 5)] for k in range(n + 1)]


def others(graph, seed=1):
    """The graph itself, with other names, with one edge moved, and with other sizes."""
    n, edges = graph
    found = [graph, renamed(graph, drawn_order(seed, n)), (n, edges[1:]), beside(graph, (1, ()))]
    free = complement(graph)[1]
    if edges and free:
        moved = (n, tuple(sorted(edges[1:] + (free[seed % len(free)],))))
        found += [moved, renamed(moved, drawn_order(seed, n))]
    return found


class Tries(unittest.TestCase):
    def decided(self, graph, question):
        """A paper, once everything that can be told without its kind has been looked at."""
        paper = decide(graph, question)
        self.assertIs(type(paper), tuple)
        self.assertEqual(len(paper), 2)
        self.assertIs(check(graph, question, paper), True, (graph, question, paper))
        self.assertIs(check(graph, question, (OTHER[paper[0]], paper[1])), False)
        self.assertTrue(naive.right(graph, question, paper), (graph, question, paper))
        return paper

    def answers(self, graph, question, answer):
        found = self.decided(graph, question)
        self.assertEqual(found[0], answer, (graph, question))
        return found[1]


class Answers(Tries):
    """The answers that a direct search finds, with right papers."""

    def all_right(self, graph, more=()):
        for question in questions(graph) + [("isomorphic", other) for other in more]:
            self.answers(graph, question, answers.answer(graph, question))

    def test_small_graphs(self):
        for graph in small_graphs():
            self.all_right(graph, others(graph))

    def test_graphs_of_five(self):
        for at, graph in enumerate(graphs_of_size(5)[::7]):
            self.all_right(graph, others(graph, at))

    def test_graphs_with_a_name(self):
        for graph in SHAPES:
            if graph[0] <= 8:
                self.all_right(graph, others(graph))

    def test_drawn_graphs(self):
        for at, graph in enumerate(drawn_graphs(1, (6, 7, 8), 12)):
            self.all_right(graph, others(graph, at))

    def test_graphs_of_equal_sizes(self):
        graphs = [graph for graph in graphs_of_size(4) if len(graph[1]) == 3]
        for graph in graphs:
            for other in graphs:
                question = ("isomorphic", other)
                self.answers(graph, question, answers.answer(graph, question))


class OtherAnswers(Tries):
    """Papers with the other answer are not taken: there are none, so those of other graphs and questions are tried."""

    def test_papers_of_other_graphs(self):
        graphs = drawn_graphs(2, (5,), 14) + [graph for graph in SHAPES if graph[0] == 5]
        for question in questions(graphs[0]):
            papers = [decide(graph, question) for graph in graphs]
            for graph, (answer, _) in zip(graphs, papers):
                for paper in papers:
                    if paper[0] != answer:
                        self.assertIs(check(graph, question, paper), False)

    def test_papers_of_other_questions(self):
        for graph in drawn_graphs(3, (4, 6), 5):
            found = {question: decide(graph, question) for question in questions(graph)}
            for question, (answer, _) in found.items():
                for _, data in found.values():
                    self.assertIs(check(graph, question, (OTHER[answer], data)), False)


class Questions(Tries):
    def test_what_is_no_question(self):
        graph = path_graph(3)
        wrong = odd_values() + [
            (), 0, "connected", ["connected"], ("connect",), ("Connected",), ("connected", 1), ("planar", ()),
            ("degenerate",), ("degenerate", -1), ("colours", True), ("matching", False), ("width", 1, 1),
            ("independent", "1"), ("trees", 1.0), ("forests", None), ["indegree", 1], ("linked", 0, 0, 1),
            ("linked", 0, 3, 1), ("linked", -1, 1, 1), ("linked", 0, 1, -1), ("linked", 0, 1), ("linked", 0, 1, 1, 1),
            ("linked", False, 1, 1), ("linked", 0, True, 1), ("linked", 0, 1, True), ("isomorphic",),
            ("isomorphic", (0, ())), ("isomorphic", [3, ()]), ("isomorphic", (3, [])), ("isomorphic", (2, ((1, 0),))),
            ("isomorphic", (61, ())), ("isomorphic", graph, graph), (("connected",),),
        ]
        for question in wrong:
            with self.assertRaises(BadQuestion):
                decide(graph, question)
        self.assertTrue(issubclass(BadQuestion, TrellisError))

    def test_a_question_of_another_graph(self):
        with self.assertRaises(BadQuestion):
            decide((3, ()), ("linked", 0, 3, 0))
        self.answers((4, ()), ("linked", 0, 3, 0), "yes")

    def test_huge_numbers(self):
        huge = 10 ** 29
        for graph in ((1, ()), (2, ()), path_graph(4), full_graph(5), PETERSEN):
            for kind in ("degenerate", "indegree", "forests", "width", "colours"):
                self.answers(graph, (kind, huge), "yes")
            for kind in ("independent", "matching"):
                self.answers(graph, (kind, huge), "no")
            self.answers(graph, ("trees", huge), "yes" if graph[0] == 1 else "no")
        self.answers(full_graph(5), ("linked", 0, 1, huge), "no")
        self.answers((2, ()), ("linked", 1, 0, huge), "no")

    def test_nothing_is_changed(self):
        for graph in SHAPES[9:16]:
            for question in questions(graph)[::3]:
                before = repr((graph, question))
                self.assertEqual(decide(graph, question)[0], decide(graph, question)[0])
                self.assertEqual(repr((graph, question)), before)


class Values(Tries):
    """Papers are values that can be written and read back, and for graphs with up to 12 vertices not nested deep."""

    def test_papers_of_twelve_vertices(self):
        graphs = drawn_graphs(4, (9, 12, 12), 6) + [
            (12, ()), full_graph(12), path_graph(12), cycle_graph(12), two_sided(6, 6), grid_graph(3, 4), PETERSEN,
            beside(cycle_graph(5), cycle_graph(7)), complement(cycle_graph(11)), beside(OCTAHEDRON, OCTAHEDRON),
        ]
        for at, graph in enumerate(graphs):
            more = [("isomorphic", other) for other in others(graph, at)]
            for question in questions(graph) + more:
                paper = decide(graph, question)
                self.assertIs(check(graph, question, paper), True, (graph, question))
                self.assertLessEqual(depth_of(paper), 200)
                self.assertEqual(read_value(write_value(paper)), paper)

    def test_regular_graphs_that_are_not_alike(self):
        ring = made_graph(12, [(i, (i + d) % 12) for i in range(12) for d in (1, 5)])
        other = made_graph(12, [(i, (i + d) % 12) for i in range(12) for d in (1, 3)])
        data = self.answers(ring, ("isomorphic", other), "no")
        self.assertLessEqual(depth_of(data), 198)
        self.answers(ring, ("isomorphic", renamed(ring, drawn_order(6, 12))), "yes")
        self.answers(cycle_graph(12), ("isomorphic", beside(cycle_graph(5), cycle_graph(7))), "no")


class Walks(Tries):
    def test_the_least_blocks(self):
        self.assertEqual(self.answers((1, ()), ("block",), "yes"), ())
        self.assertEqual(self.answers((2, ((0, 1),)), ("block",), "yes"), ())
        self.assertEqual(self.answers((2, ()), ("block",), "no")[0], ())
        self.assertEqual(self.answers(path_graph(3), ("block",), "no")[0], (1,))
        self.assertEqual(len(self.answers(two_sided(2, 5), ("block",), "yes")), 4)
        self.assertEqual(self.answers(FLOWER, ("block",), "no")[0], ())
        self.answers(PETERSEN, ("block",), "yes")

    def test_cycles_that_are_the_only_ones(self):
        for n in (3, 5, 9):
            graph = beside(path_graph(4), cycle_graph(n))
            for kind in ("forest", "bipartite"):
                self.assertEqual(set(self.answers(graph, (kind,), "no")), set(range(4, 4 + n)))
        self.answers(beside(path_graph(4), cycle_graph(6)), ("bipartite",), "yes")

    def test_paths_between_neighbours(self):
        graph = full_graph(5)
        for k in range(5):
            paths = self.answers(graph, ("linked", 1, 3, k), "yes")
            self.assertEqual(len(paths), k)
        self.assertEqual(self.answers(graph, ("linked", 3, 1, 5), "no"), (0, 2, 4))
        self.assertEqual(self.answers((2, ((0, 1),)), ("linked", 1, 0, 1), "yes"), ((1, 0),))
        self.assertEqual(self.answers((2, ((0, 1),)), ("linked", 1, 0, 2), "no"), ())

    def test_paths_between_others(self):
        graph = two_sided(2, 4)
        self.answers(graph, ("linked", 0, 1, 4), "yes")
        self.assertEqual(self.answers(graph, ("linked", 0, 1, 5), "no"), (2, 3, 4, 5))
        self.assertEqual(self.answers((4, ()), ("linked", 2, 0, 0), "yes"), ())
        self.assertEqual(self.answers((4, ()), ("linked", 2, 0, 1), "no"), ())

    def test_paths_that_must_be_changed(self):
        """The shortest path would keep others from being found."""
        graph = made_graph(8, [(0, 1), (1, 2), (2, 7), (0, 3), (3, 2), (1, 4), (4, 5), (5, 7), (3, 6)])
        self.answers(graph, ("linked", 0, 7, 2), "yes")
        self.answers(graph, ("linked", 7, 0, 2), "yes")
        self.answers(graph, ("linked", 0, 7, 3), "no")
        self.answers(CUBE, ("linked", 0, 7, 3), "yes")
        self.answers(PETERSEN, ("linked", 0, 7, 3), "yes")


class Classes(Tries):
    def test_holes_and_asteroids(self):
        self.assertEqual(self.answers(SPIDER, ("interval",), "no")[0], "asteroid")
        self.answers(SPIDER, ("chordal",), "yes")
        self.assertEqual(self.answers(cycle_graph(4), ("interval",), "no")[0], "hole")
        sun = made_graph(6, [(0, 1), (0, 2), (1, 2), (0, 3), (1, 3), (1, 4), (2, 4), (0, 5), (2, 5)])
        self.assertEqual(self.answers(sun, ("interval",), "no")[0], "asteroid")
        self.answers(sun, ("chordal",), "yes")
        self.answers(two_sided(1, 3), ("interval",), "yes")

    def test_chains_of_the_graph_and_of_its_complement(self):
        self.assertEqual(self.answers(cycle_graph(5), ("permutation",), "no")[0], "graph")
        self.assertEqual(self.answers(cycle_graph(6), ("permutation",), "no")[0], "complement")
        self.answers(cycle_graph(6), ("comparability",), "yes")
        self.answers(complement(cycle_graph(6)), ("comparability",), "no")
        self.answers(cycle_graph(7), ("comparability",), "no")
        self.answers(path_graph(8), ("permutation",), "yes")
        self.answers(CUBE, ("comparability",), "yes")

    def test_trees_of_vertices(self):
        self.assertEqual(self.answers((1, ()), ("cograph",), "yes"), 0)
        self.answers(two_sided(4, 4), ("cograph",), "yes")
        self.assertEqual(sorted(self.answers(path_graph(4), ("cograph",), "no")), [0, 1, 2, 3])
        self.answers(path_graph(4), ("prime",), "yes")
        self.answers(path_graph(3), ("prime",), "no")
        self.answers((2, ()), ("prime",), "yes")


class Drawings(Tries):
    """Bodies, with lines between three, five, four or two ends, with further vertices on the lines and further edges."""

    def with_lines(self, graph, extra):
        """The graph with a further vertex on each of its first edges."""
        n, edges = graph
        long = [pair for at in range(extra) for pair in ((edges[at][0], n + at), (n + at, edges[at][1]))]
        return made_graph(n + extra, long + list(edges[extra:]))

    def test_bodies(self):
        for graph, kind, word in (
            (full_graph(5), "planar", "five"), (two_sided(3, 3), "planar", "three"),
            (full_graph(4), "outerplanar", "four"), (two_sided(2, 3), "outerplanar", "two"),
        ):
            for extra in (0, 1, 4, len(graph[1])):
                body = self.with_lines(graph, extra)
                found = self.answers(body, (kind,), "no")[0]
                # Four ends with a further vertex on a line contain two with three lines between them.
                self.assertIn(found, (word, "two") if word == "four" and extra else (word,))
                self.assertEqual(self.answers(beside((2, ((0, 1),)), beside(body, (3, ()))), (kind,), "no")[0], found)
                for at in range(0, len(body[1]) if word != "four" or extra == 0 else 0, 3):
                    self.answers((body[0], body[1][:at] + body[1][at + 1:]), (kind,), "yes")
            turned = renamed(body, drawn_order(3, body[0]))
            self.answers(turned, (kind,), "no")
            self.answers((body[0], tuple(sorted(set(turned[1]) | set(path_graph(body[0])[1])))), (kind,), "no")

    def test_graphs_that_contain_a_body_somewhere(self):
        for graph in (full_graph(6), full_graph(8), PETERSEN, WAGNER, two_sided(4, 4), complement(CUBE)):
            self.answers(graph, ("planar",), "no")
            self.answers(beside(TREE, graph), ("planar",), "no")
        for graph in (CUBE, OCTAHEDRON, PRISM, grid_graph(3, 3), full_graph(5), two_sided(3, 4)):
            self.answers(graph, ("outerplanar",), "no")

    def test_drawings(self):
        for graph in (CUBE, OCTAHEDRON, PRISM, FLOWER, TREE, grid_graph(3, 4), (1, ()), (6, ()), two_sided(2, 6)):
            self.answers(graph, ("planar",), "yes")
            self.answers(beside(graph, full_graph(4)), ("planar",), "yes")
            self.answers(renamed(graph, drawn_order(5, graph[0])), ("planar",), "yes")
        for graph in (FLOWER, TREE, cycle_graph(9), (1, ()), (6, ()), grid_graph(2, 5)):
            self.answers(graph, ("outerplanar",), "yes")
            self.answers(beside(graph, full_graph(3)), ("outerplanar",), "yes")

    def test_blocks_at_one_vertex(self):
        fours = made_graph(10, [pair for part in ((0, 1, 2, 3), (0, 4, 5, 6), (0, 7, 8, 9))
                                for pair in combinations(part, 2)])
        self.answers(fours, ("planar",), "yes")
        self.answers(fours, ("outerplanar",), "no")
        threes = made_graph(9, [pair for at in (1, 3, 5, 7) for pair in ((0, at), (0, at + 1), (at, at + 1))])
        self.answers(threes, ("outerplanar",), "yes")
        self.answers(renamed(threes, drawn_order(2, 9)), ("outerplanar",), "yes")
        five = made_graph(9, list(threes[1]) + list(combinations((0, 1, 2, 3, 4), 2)))
        self.answers(five, ("planar",), "no")


class Bags(Tries):
    def test_known_widths(self):
        for graph, width in (
            ((1, ()), 0), ((5, ()), 0), (path_graph(5), 1), (TREE, 1), (cycle_graph(9), 2), (full_graph(7), 6),
            (OCTAHEDRON, 4), (WAGNER, 4), (PRISM, 4), (CUBE, 3), (PETERSEN, 4), (grid_graph(3, 3), 3),
            (grid_graph(4, 4), 4), (two_sided(3, 5), 3), (beside(full_graph(3), full_graph(5)), 4),
            (complement(made_graph(10, [(i, i + 5) for i in range(5)])), 8), (beside(CUBE, OCTAHEDRON), 4),
        ):
            self.answers(graph, ("width", width), "yes")
            if width > 0:
                self.answers(graph, ("width", width - 1), "no")


    def test_the_least_width_over_all_orders(self):
        for graph in small_graphs()[::3] + drawn_graphs(5, (5, 6), 6):
            width = min(order_width(graph, order) for order in permutations(range(graph[0])))
            self.answers(graph, ("width", width), "yes")
            if width > 0:
                self.answers(graph, ("width", width - 1), "no")


class Searches(Tries):
    def test_odd_cycles_need_three_colours(self):
        self.answers(full_graph(3), ("colours", 2), "no")
        for n in (5, 7, 9, 11):
            self.answers(cycle_graph(n), ("colours", 2), "no")
            self.answers(cycle_graph(n), ("colours", 3), "yes")
            self.answers(complement(cycle_graph(n)), ("colours", n // 2), "no")
            self.answers(complement(cycle_graph(n)), ("colours", n // 2 + 1), "yes")
            self.answers(cycle_graph(n), ("independent", n // 2), "yes")
            self.answers(cycle_graph(n), ("independent", n // 2 + 1), "no")

    def test_a_graph_without_triangles_that_needs_four_colours(self):
        rim = [(i, (i + 1) % 5) for i in range(5)]
        around = [pair for u, v in rim for pair in ((u, v + 5), (v, u + 5))]
        graph = made_graph(11, rim + around + [(i, 10) for i in range(5, 10)])
        self.answers(graph, ("colours", 3), "no")
        self.answers(graph, ("colours", 4), "yes")

    def test_sets_of_petersen(self):
        self.answers(PETERSEN, ("independent", 4), "yes")
        self.answers(PETERSEN, ("independent", 5), "no")
        self.answers(PETERSEN, ("colours", 2), "no")
        self.answers(PETERSEN, ("colours", 3), "yes")

    def test_matchings(self):
        self.assertEqual(self.answers((5, ()), ("matching", 0), "yes"), ())
        self.answers((5, ()), ("matching", 1), "no")
        meeting = made_graph(9, [(0, 1), (0, 2), (1, 2), (0, 3), (3, 4), (4, 5), (5, 6), (3, 6), (6, 7), (7, 8)])
        self.answers(meeting, ("matching", 4), "yes")
        self.answers(meeting, ("matching", 5), "no")
        self.answers(PETERSEN, ("matching", 5), "yes")

    def test_different_sizes(self):
        self.assertEqual(self.answers(path_graph(3), ("isomorphic", (3, ())), "no"), ("sizes",))
        self.assertEqual(self.answers(path_graph(3), ("isomorphic", path_graph(4)), "no"), ("sizes",))
        self.assertEqual(self.answers((1, ()), ("isomorphic", (1, ())), "yes"), (0,))
        self.assertEqual(self.answers(path_graph(4), ("isomorphic", two_sided(1, 3)), "no")[0], "try")


class LargerGraphs(Tries):
    """Nothing but an end is promised for these; the kinds that need no long search are tried."""

    def takes(self, graph, question, answer):
        paper = decide(graph, question)
        self.assertEqual(paper[0], answer, question)
        self.assertIs(check(graph, question, paper), True, question)

    def test_a_grid(self):
        graph = grid_graph(6, 10)
        for question, answer in (
            (("connected",), "yes"), (("bipartite",), "yes"), (("forest",), "no"), (("block",), "yes"),
            (("chordal",), "no"), (("interval",), "no"), (("cograph",), "no"), (("comparability",), "yes"),
            (("permutation",), "no"), (("prime",), "yes"), (("planar",), "yes"), (("outerplanar",), "no"),
            (("degenerate", 1), "no"), (("degenerate", 2), "yes"), (("indegree", 1), "no"), (("indegree", 2), "yes"),
            (("forests", 1), "no"), (("forests", 2), "yes"), (("trees", 1), "yes"), (("trees", 2), "no"),
            (("width", 1), "no"), (("width", 6), "yes"), (("colours", 2), "yes"), (("colours", 1), "no"),
            (("independent", 30), "yes"), (("independent", 31), "no"), (("matching", 30), "yes"),
            (("matching", 31), "no"), (("linked", 11, 48, 4), "yes"), (("linked", 0, 59, 3), "no"),
            (("isomorphic", renamed(graph, drawn_order(7, 60))), "yes"),
        ):
            self.takes(graph, question, answer)

    def test_graphs_without_edges_and_full_ones(self):
        empty, full = (60, ()), full_graph(60)
        for kind in PLAIN:
            self.takes(empty, (kind,), "no" if kind in ("connected", "block", "prime") else "yes")
            self.takes(full, (kind,), "no" if kind in ("bipartite", "forest", "prime", "planar", "outerplanar") else
                       "yes")
        for kind, number in (("degenerate", 59), ("width", 59), ("colours", 60)):
            self.takes(full, (kind, number), "yes")
            self.takes(full, (kind, number - 1), "no")
        self.takes(full, ("indegree", 29), "no")
        self.takes(full, ("forests", 29), "no")
        self.takes(full, ("trees", 31), "no")
        self.takes(full, ("independent", 2), "no")
        self.takes(full, ("matching", 31), "no")
        self.takes(full, ("linked", 0, 59, 59), "yes")
        self.takes(full, ("linked", 0, 59, 60), "no")
        self.takes(empty, ("independent", 61), "no")

    def test_every_kind_is_decided(self):
        kinds = {question[0] for question in questions(full_graph(3)) + [("isomorphic", (1, ()))]}
        self.assertEqual(kinds, set(KINDS))
