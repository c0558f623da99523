import unittest

from helpers import Same, Touchy, odd_values, small_graphs
from trellis.questions import KINDS, is_question

PLAIN = (
    "connected", "bipartite", "forest", "block", "chordal", "interval", "cograph", "comparability", "permutation",
    "prime", "planar", "outerplanar",
)
NUMBERED = ("degenerate", "indegree", "forests", "trees", "width", "colours", "independent", "matching")
GRAPH = (3, ((0, 1), (1, 2)))


def right_questions(graph):
    n = graph[0]
    found = [(kind,) for kind in PLAIN]
    found += [(kind, k) for kind in NUMBERED for k in (0, 1, 2, n, 60, 61, 10 ** 40)]
    found += [("linked", s, t, k) for s in range(n) for t in range(n) if s != t for k in (0, 1, 5, 10 ** 40)]
    return found + [("isomorphic", other) for other in ((1, ()), (2, ((0, 1),)), graph, (60, ((0, 59),)))]


class Kinds(unittest.TestCase):
    def test_the_order_of_the_list(self):
        self.assertEqual(KINDS, PLAIN + NUMBERED + ("linked", "isomorphic"))
        self.assertEqual((type(KINDS), len(KINDS)), (tuple, 22))


class IsQuestion(unittest.TestCase):
    def takes(self, graph, value):
        self.assertIs(is_question(graph, value), True, value)

    def refuses(self, graph, value):
        self.assertIs(is_question(graph, value), False)

    def test_takes_all_kinds(self):
        for graph in small_graphs() + [(60, ())]:
            for question in right_questions(graph)[:400]:
                self.takes(graph, question)

    def test_refuses_other_values(self):
        for value in odd_values() + [(), 0, 1, *KINDS, (0, 1), ("connected", "forest")]:
            self.refuses(GRAPH, value)

    def test_refuses_lists(self):
        for question in right_questions(GRAPH):
            self.refuses(GRAPH, list(question))

    def test_refuses_parameters_too_many_and_too_few(self):
        for question in right_questions(GRAPH):
            self.refuses(GRAPH, question[:-1])
            for more in (0, 1, (), "a", None, GRAPH, Touchy()):
                self.refuses(GRAPH, question + (more,))
        for kind in NUMBERED + ("linked", "isomorphic"):
            self.refuses(GRAPH, (kind,))
        for count in (2, 4, 5):
            self.refuses(GRAPH, ("linked", 0, 1, 2, 1, 1)[:count] if count != 4 else ("linked", 0, 1, 2, 1))

    def test_refuses_other_words(self):
        for word in ("", "Connected", "connected ", "connecte", "yes", "path", "isomorphic_", "colour", "b", b"forest"):
            for rest in ((), (1,), (0, 1, 1), (GRAPH,)):
                self.refuses(GRAPH, (word, *rest))

    def test_refuses_other_values_in_place_of_the_word(self):
        for value in odd_values() + [(), 0, 1, ("connected",), ["connected"]]:
            for rest in ((), (1,), (0, 1, 1), (GRAPH,)):
                self.refuses(GRAPH, (value, *rest))

    def test_refuses_other_values_in_place_of_a_number(self):
        others = [value for value in odd_values() if type(value) is not int] + [(), (1,), [1], "1", -1, -10 ** 40]
        for value in others:
            for kind in NUMBERED:
                self.refuses(GRAPH, (kind, value))
            self.refuses(GRAPH, ("linked", 0, 1, value))

    def test_refuses_wrong_ends(self):
        for v in (3, 4, 60, -1, -3, 10 ** 40, True, False, 0.0, "0", None, (0,), [0], Same(), Touchy()):
            for k in (0, 1):
                self.refuses(GRAPH, ("linked", v, 2, k))
                self.refuses(GRAPH, ("linked", 2, v, k))
                self.refuses(GRAPH, ("linked", v, v, k))

    def test_refuses_equal_ends(self):
        for n in (1, 2, 3, 60):
            for v in {0, n - 1}:
                self.refuses((n, ()), ("linked", v, v, 0))
        self.refuses((1, ()), ("linked", 0, 1, 0))

    def test_the_ends_are_those_of_the_graph(self):
        self.takes((5, ()), ("linked", 4, 0, 1))
        self.refuses((4, ()), ("linked", 4, 0, 1))

    def test_refuses_what_is_no_other_graph(self):
        for value in odd_values() + [(), 0, 1, (0, ()), (61, ()), (2, ((1, 0),)), (2, [(0, 1)]), (2, ((0, 2),)),
                                     [2, ()], (True, ()), (2, ((False, 1),)), (3, ((0, 1), (0, 1))), (3,)]:
            self.refuses(GRAPH, ("isomorphic", value))
