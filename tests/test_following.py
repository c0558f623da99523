import unittest
from itertools import permutations, product

import naive
import renamings
from helpers import drawn_graphs, drawn_order, small_graphs, undone
from papers import NUMBERED, PLAIN, questions_for, right_papers
from test_checking import FIVES, SHAPES, others_for
from test_deciding import OCTAHEDRON, PETERSEN, PRISM, SPIDER, others, questions
from trellis.checking import check
from trellis.deciding import decide
from trellis.edits import edited
from trellis.errors import BadEdit
from trellis.families import cycle_graph, full_graph, path_graph, two_sided
from trellis.following import carried, renamed_paper, renamed_question
from trellis.graphs import beside, complement, made_graph, renamed


def all_questions(graph, seed):
    return questions(graph) + [("isomorphic", other) for other in others(graph, seed)]


class RenamedQuestions(unittest.TestCase):
    def test_linked(self):
        self.assertEqual(renamed_question(("linked", 0, 2, 5), (3, 1, 0, 2)), ("linked", 3, 0, 5))
        self.assertEqual(renamed_question(("linked", 3, 0, 0), (3, 1, 0, 2)), ("linked", 2, 3, 0))

    def test_others_stay(self):
        for kind in PLAIN:
            self.assertEqual(renamed_question((kind,), (1, 2, 0)), (kind,))
        for kind in NUMBERED:
            self.assertEqual(renamed_question((kind, 1), (1, 2, 0)), (kind, 1))
        other = path_graph(3)
        self.assertEqual(renamed_question(("isomorphic", other), (1, 2, 0)), ("isomorphic", other))


class RenamedPapers(unittest.TestCase):
    def follows(self, graph, question, paper, order):
        """The renamed paper is as the document tells, is right, has the same answer, and comes back."""
        found = renamed_paper(graph, question, paper, order)
        right = paper[0], renamings.renamed_data(graph, question, paper[0], paper[1], order)
        self.assertEqual(found, right, (graph, question, paper, order))
        other, asked = renamed(graph, order), renamed_question(question, order)
        self.assertIs(check(other, asked, found), True)
        self.assertTrue(naive.right(other, asked, found))
        self.assertEqual(renamed_paper(other, asked, found, undone(order)), paper)
        self.assertEqual(renamed_paper(graph, question, paper, tuple(range(graph[0]))), paper)
        return paper[0]

    def becomes(self, graph, question, paper, order, right):
        self.assertIs(check(graph, question, paper), True, (graph, question, paper))
        self.assertEqual(renamed_paper(graph, question, paper, order), right)
        self.follows(graph, question, paper, order)

    def test_the_example(self):
        self.assertEqual(renamed_paper((3, ((0, 1),)), ("connected",), ("no", (2,)), (2, 0, 1)), ("no", (1,)))

    def test_papers_of_small_graphs(self):
        """Papers that have been found without the program, of all kinds and with both answers."""
        seen = set()
        for graph in SHAPES + FIVES:
            orders = list(permutations(range(graph[0])))
            for question in questions_for(graph, others_for(graph)):
                for paper in right_papers(graph, question, 3):
                    for order in orders[1::max(1, len(orders) // 5)]:
                        seen.add((question[0], self.follows(graph, question, paper, order)))
        self.assertEqual(seen, set(product([*PLAIN, *NUMBERED, "linked", "isomorphic"], ("yes", "no"))))

    def test_papers_that_are_decided(self):
        graphs = drawn_graphs(41, (6, 7), 8) + [
            SPIDER, OCTAHEDRON, full_graph(6), two_sided(3, 3), cycle_graph(7), complement(cycle_graph(7)), (6, ()),
        ]
        for seed, graph in enumerate(graphs):
            for question in all_questions(graph, seed):
                self.follows(graph, question, decide(graph, question), drawn_order(seed, graph[0]))

    def test_all_orders_of_small_graphs(self):
        for graph in small_graphs()[11::5]:
            for question in all_questions(graph, 1):
                paper = decide(graph, question)
                for order in permutations(range(graph[0])):
                    self.follows(graph, question, paper, order)

    def test_larger_searches(self):
        for graph in (PETERSEN, PRISM, complement(PETERSEN), cycle_graph(11)):
            for k in range(1, 6):
                for kind in ("colours", "independent", "width"):
                    paper = decide(graph, (kind, k))
                    self.follows(graph, (kind, k), paper, drawn_order(k, graph[0]))
        ring = beside(cycle_graph(4), cycle_graph(5))
        for other in (cycle_graph(9), beside(cycle_graph(3), cycle_graph(6)), renamed(ring, drawn_order(1, 9))):
            self.follows(ring, ("isomorphic", other), decide(ring, ("isomorphic", other)), drawn_order(2, 9))

    def test_sets_and_edges_ascend_again(self):
        path = path_graph(4)
        self.becomes(path, ("connected",), ("yes", path[1]), (2, 0, 3, 1), ("yes", ((0, 2), (0, 3), (1, 3))))
        self.becomes(path, ("bipartite",), ("yes", (0, 2)), (3, 2, 1, 0), ("yes", (1, 3)))
        self.becomes(path, ("matching", 2), ("yes", ((0, 1), (2, 3))), (2, 3, 1, 0), ("yes", ((0, 1), (2, 3))))
        self.becomes(path, ("matching", 2), ("yes", ((0, 1), (2, 3))), (3, 0, 2, 1), ("yes", ((0, 3), (1, 2))))

    def test_partitions_ascend_again(self):
        graph = made_graph(4, [(0, 1), (2, 3), (0, 2)])
        self.becomes(graph, ("trees", 2), ("no", ((0, 1), (2, 3))), (3, 1, 2, 0), ("no", ((0, 2), (1, 3))))
        self.becomes(graph, ("trees", 2), ("no", ((0,), (1, 2), (3,))), (3, 2, 1, 0), ("no", ((0,), (1, 2), (3,))))

    def test_ears_and_paths_and_forests_keep_their_places(self):
        graph = made_graph(5, [(0, 1), (1, 2), (2, 3), (0, 3), (0, 4), (2, 4)])
        self.becomes(graph, ("block",), ("yes", ((0, 1, 2, 3), (2, 4, 0))), (4, 3, 2, 1, 0),
                     ("yes", ((4, 3, 2, 1), (2, 0, 4))))
        self.becomes(graph, ("linked", 0, 2, 2), ("yes", ((0, 3, 2), (0, 1, 2))), (1, 0, 2, 4, 3),
                     ("yes", ((1, 4, 2), (1, 0, 2))))
        triangle = full_graph(3)
        self.becomes(triangle, ("forests", 3), ("yes", ((), ((1, 2),), ((0, 1), (0, 2)))), (2, 1, 0),
                     ("yes", ((), ((0, 1),), ((0, 2), (1, 2)))))
        four = full_graph(4)
        trees = (((0, 1), (1, 2), (2, 3)), ((0, 2), (0, 3), (1, 3)))
        self.becomes(four, ("trees", 2), ("yes", trees), (0, 2, 1, 3),
                     ("yes", (((0, 2), (1, 2), (1, 3)), ((0, 1), (0, 3), (2, 3)))))

    def test_items_move(self):
        path = path_graph(3)
        self.becomes(path, ("interval",), ("yes", ((0, 1), (1, 2), (2, 3))), (1, 2, 0),
                     ("yes", ((2, 3), (0, 1), (1, 2))))
        self.becomes(path, ("colours", 3), ("yes", (2, 0, 1)), (1, 2, 0), ("yes", (1, 2, 0)))
        self.becomes(path, ("planar",), ("yes", ((1,), (2, 0), (1,))), (2, 0, 1), ("yes", ((1, 2), (0,), (0,))))
        self.becomes(path, ("indegree", 1), ("yes", ((1, 0), (1, 2))), (0, 2, 1), ("yes", ((2, 0), (2, 1))))
        self.becomes(path, ("indegree", 2), ("yes", ((0, 1), (2, 1))), (2, 1, 0), ("yes", ((0, 1), (2, 1))))
        four = path_graph(4)
        rows = ((2, 3), (3, 1), (2, 1), (3, 0), (0, 2), (1, 0))
        self.becomes(four, ("prime",), ("yes", rows), (0, 1, 3, 2),
                     ("yes", ((3, 2), (3, 1), (2, 1), (0, 3), (2, 0), (1, 0))))

    def test_orders_chains_and_trees_keep_their_form(self):
        path = path_graph(3)
        self.becomes(path, ("chordal",), ("yes", (2, 0, 1)), (1, 2, 0), ("yes", (0, 1, 2)))
        self.becomes(path, ("cograph",), ("yes", ("join", ("union", 2, 0), 1)), (1, 0, 2),
                     ("yes", ("join", ("union", 2, 1), 0)))
        self.becomes(path, ("permutation",), ("yes", ((1, 0, 2), (0, 2, 1))), (2, 1, 0),
                     ("yes", ((1, 2, 0), (2, 0, 1))))
        chain = ((0, 1), (2, 1), (2, 3), (4, 3), (4, 0), (1, 0))
        turned = ((1, 2), (3, 2), (3, 4), (0, 4), (0, 1), (2, 1))
        self.becomes(cycle_graph(5), ("comparability",), ("no", chain), (1, 2, 3, 4, 0), ("no", turned))
        self.becomes(cycle_graph(5), ("permutation",), ("no", ("graph", chain)), (1, 2, 3, 4, 0),
                     ("no", ("graph", turned)))
        self.becomes(cycle_graph(4), ("interval",), ("no", ("hole", (0, 1, 2, 3))), (3, 0, 1, 2),
                     ("no", ("hole", (3, 0, 1, 2))))

    def test_bags_and_brambles_keep_their_places(self):
        path = path_graph(3)
        self.becomes(path, ("width", 1), ("yes", (((1, 2), (0, 1)), ((0, 1),))), (2, 1, 0),
                     ("yes", (((0, 1), (1, 2)), ((0, 1),))))
        self.becomes(path, ("width", 0), ("no", ((1, 2), (0,))), (1, 2, 0), ("no", ((0, 2), (1,))))

    def test_colour_searches(self):
        """In the first case, 1 stands for 1 and 3, which are 2 and 0 afterwards: so 0 stands for both."""
        ring = cycle_graph(5)
        search = ("split", 1, 3, ("clique", (0, 1, 4)), ("clique", (1, 2, 3)))
        self.becomes(ring, ("colours", 2), ("no", search), (1, 2, 4, 0, 3),
                     ("no", ("split", 0, 2, ("clique", (0, 1, 3)), ("clique", (0, 2, 4)))))
        self.becomes(ring, ("colours", 2), ("no", search), (0, 4, 3, 2, 1),
                     ("no", ("split", 2, 4, ("clique", (0, 1, 2)), ("clique", (2, 3, 4)))))

    def test_set_searches(self):
        search = ("take", 2, ("cover", ((0,), (4,))), ("cover", ((0, 1), (3, 4))))
        self.becomes(path_graph(5), ("independent", 4), ("no", search), (4, 0, 3, 1, 2),
                     ("no", ("take", 3, ("cover", ((4,), (2,))), ("cover", ((0, 4), (1, 2))))))

    def test_graphs_that_are_alike(self):
        path = path_graph(3)
        other = (3, ((0, 1), (0, 2)))
        self.becomes(path, ("isomorphic", other), ("yes", (2, 0, 1)), (1, 2, 0), ("yes", (1, 2, 0)))
        star = two_sided(1, 3)
        search = ("try", 1, (("degree",),) * 4)
        self.becomes(path_graph(4), ("isomorphic", star), ("no", search), (3, 2, 0, 1),
                     ("no", ("try", 2, (("degree",),) * 4)))
        near = ("try", 0, (("degree",), ("near", 2), ("near", 2), ("near", 2)))
        self.becomes(path_graph(4), ("isomorphic", star), ("no", near), (3, 2, 0, 1),
                     ("no", ("try", 3, (("degree",), ("near", 2), ("near", 2), ("near", 2)))))
        self.becomes(path, ("isomorphic", (3, ())), ("no", ("sizes",)), (1, 2, 0), ("no", ("sizes",)))

    def test_deep_papers(self):
        n = 60
        tree = 0
        for v in range(1, n):
            tree = ("join" if v % 2 else "union", tree, v)
        graph = made_graph(n, [(u, v) for v in range(1, n, 2) for u in range(v)])
        self.follows(graph, ("cograph",), ("yes", tree), drawn_order(4, n))
        search = ("cover", ())
        for v in range(n):
            search = ("take", v, ("cover", ()), search)
        self.follows(full_graph(n), ("independent", 2), ("no", search), drawn_order(5, n))
        n = 20
        search = ("clique", (n - 1,))
        for u, v in reversed([(u, v) for u in range(n) for v in range(u + 1, n)]):
            search = ("split", u, v, ("clique", (0,)), search)
        order = drawn_order(6, n)
        found = renamed_paper((n, ()), ("colours", 0), ("no", search), order)
        self.assertIs(check((n, ()), ("colours", 0), found), True)
        self.assertEqual(renamed_paper((n, ()), ("colours", 0), found, undone(order)), ("no", search))


def lowered(value, v):
    """A value once the integers above v are lowered."""
    if isinstance(value, tuple):
        return tuple(lowered(item, v) for item in value)
    return value - 1 if isinstance(value, int) and value > v else value


class Carried(unittest.TestCase):
    def edits(self, graph):
        n, edges = graph
        free = complement(graph)[1]
        found = [("part", *edge) for edge in edges[:3]] + [("part", v, u) for u, v in edges[3:4]]
        found += [("join", *edge) for edge in free[:3]] + [("join", v, u) for u, v in free[3:4]]
        return found + [("new",)] + [("drop", v) for v in range(n) if n > 1]

    def test_every_edit(self):
        """The paper itself, or with lowered integers, exactly where it is right."""
        seen = set()
        for seed, graph in enumerate(small_graphs()[::4] + drawn_graphs(51, (5, 6), 5)):
            for question in all_questions(graph, seed):
                paper = decide(graph, question)
                for edit in self.edits(graph):
                    found = carried(graph, edit, question, paper)
                    after = edited(graph, edit)
                    right = paper
                    if edit[0] == "drop":
                        right = (paper[0], lowered(paper[1], edit[1]))
                    if edit[0] == "drop" and question[0] in ("linked", "isomorphic"):
                        self.assertIsNone(found)
                    elif naive.right(after, question, right):
                        self.assertEqual(found, right)
                        self.assertIs(check(after, question, found), True)
                    else:
                        self.assertIsNone(found)
                    seen.add((question[0], edit[0], found is None))
        for kind in (*PLAIN, *NUMBERED, "linked", "isomorphic"):
            for word in ("join", "part"):
                self.assertIn((kind, word, True), seen)
            self.assertIn((kind, "drop", True), seen)
        for kind in ("connected", "bipartite", "colours", "independent", "width", "matching"):
            for word in ("join", "part", "drop"):
                self.assertIn((kind, word, False), seen)

    def test_papers_that_stay(self):
        graph = path_graph(4)
        self.assertEqual(carried(graph, ("join", 0, 3), ("connected",), ("yes", graph[1])), ("yes", graph[1]))
        self.assertEqual(carried(graph, ("join", 3, 0), ("bipartite",), ("yes", (0, 2))), ("yes", (0, 2)))
        self.assertEqual(carried(graph, ("new",), ("bipartite",), ("yes", (0, 2))), ("yes", (0, 2)))
        self.assertEqual(carried(graph, ("part", 2, 1), ("bipartite",), ("yes", (0, 2))), ("yes", (0, 2)))
        self.assertEqual(carried(graph, ("drop", 1), ("independent", 2), ("yes", (0, 3))), ("yes", (0, 2)))
        self.assertEqual(carried(graph, ("drop", 0), ("forest",), ("no", (1, 2, 3))), None)
        ring = beside((1, ()), cycle_graph(4))
        self.assertEqual(carried(ring, ("drop", 0), ("chordal",), ("no", (1, 2, 3, 4))), ("no", (0, 1, 2, 3)))
        pairing = ("no", ("sizes",))
        self.assertEqual(carried(graph, ("new",), ("isomorphic", (1, ())), pairing), pairing)
        self.assertEqual(carried(graph, ("new",), ("linked", 0, 3, 1), ("yes", ((0, 1, 2, 3),))),
                         ("yes", ((0, 1, 2, 3),)))

    def test_papers_that_do_not(self):
        graph = path_graph(4)
        self.assertIsNone(carried(graph, ("part", 1, 2), ("connected",), ("yes", graph[1])))
        self.assertIsNone(carried(graph, ("new",), ("connected",), ("yes", graph[1])))
        self.assertIsNone(carried(graph, ("join", 0, 2), ("bipartite",), ("yes", (0, 2))))
        self.assertIsNone(carried(graph, ("drop", 3), ("independent", 2), ("yes", (0, 3))))
        self.assertIsNone(carried(graph, ("drop", 1), ("linked", 0, 3, 0), ("yes", ())))
        self.assertIsNone(carried(graph, ("drop", 1), ("isomorphic", (1, ())), ("no", ("sizes",))))

    def test_all_integers_are_lowered(self):
        """Also those that are no vertices: here the colours, the ends of the intervals and the links of the bags."""
        graph = (3, ())
        self.assertIsNone(carried(graph, ("drop", 0), ("colours", 3), ("yes", (0, 1, 2))))
        empty = (2, ())
        self.assertIsNone(carried((4, ()), ("drop", 0), ("interval",), ("yes", ((0, 0), (1, 1), (2, 2), (3, 3)))))
        search = ("no", ("split", 1, 2, ("clique", (0, 1)), ("clique", (1, 2))))
        triangle = made_graph(3, [(0, 1), (0, 2)])
        self.assertIs(check(triangle, ("colours", 1), search), True)
        self.assertIsNone(carried(triangle, ("drop", 0), ("colours", 1), search))
        cover = ("no", ("cover", ((0,), (1, 2))))
        self.assertEqual(carried((3, ((1, 2),)), ("new",), ("independent", 3), cover), None)
        self.assertEqual(carried(empty, ("drop", 1), ("matching", 1), ("no", ())), ("no", ()))

    def test_edits_that_cannot_be_made(self):
        graph = path_graph(3)
        for edit in (("join", 0, 1), ("join", 0, 0), ("join", 0, 3), ("part", 0, 2), ("part", 1, 3), ("drop", 3),
                     ("drop", -1)):
            for question in (("connected",), ("linked", 0, 1, 0), ("isomorphic", graph)):
                with self.assertRaises(BadEdit):
                    carried(graph, edit, question, decide(graph, question))
        with self.assertRaises(BadEdit):
            carried((1, ()), ("drop", 0), ("connected",), ("yes", ()))
        with self.assertRaises(BadEdit):
            carried((60, ()), ("new",), ("bipartite",), ("yes", ()))
