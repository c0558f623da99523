import unittest
from random import Random

from helpers import drawn_graphs, drawn_order, odd_values
from papers import NUMBERED, PLAIN
from trellis.checking import check
from trellis.edits import edited
from trellis.errors import BadEdit, BadQuestion
from trellis.families import cycle_graph, full_graph, path_graph
from trellis.following import carried
from trellis.graphs import renamed
from trellis.keeper import Keeper


def watched(graph):
    """Questions of all kinds that a keeper watches."""
    n = graph[0]
    return [(kind,) for kind in PLAIN] + [(kind, k) for kind in NUMBERED for k in (1, 2)] + [
        ("isomorphic", renamed(graph, drawn_order(1, n))), ("isomorphic", (n + 1, graph[1])), ("colours", n),
    ]


class Tries(unittest.TestCase):
    def state(self, keeper):
        many = len(keeper.questions())
        return keeper.graph(), keeper.questions(), [keeper.paper(k) for k in range(many)], keeper.decided

    def all_right(self, keeper):
        for k, question in enumerate(keeper.questions()):
            self.assertIs(check(keeper.graph(), question, keeper.paper(k)), True)
            self.assertEqual(keeper.answer(k), keeper.paper(k)[0])


class Watching(Tries):
    def test_the_example(self):
        k = Keeper((3, ((0, 1), (1, 2))))
        self.assertEqual(k.watch(("forest",)), 0)
        self.assertIsNone(k.edit(("join", 0, 2)))
        self.assertEqual((k.answer(0), k.decided), ("no", 1))

    def test_a_new_keeper(self):
        k = Keeper(path_graph(4))
        self.assertEqual(self.state(k), (path_graph(4), [], [], 0))
        self.assertIs(k.back(), False)

    def test_questions_are_counted_from_0(self):
        graph = path_graph(4)
        k = Keeper(graph)
        for at, question in enumerate(watched(graph)):
            self.assertEqual(k.watch(question), at)
            self.assertEqual(k.questions(), watched(graph)[:at + 1])
        self.assertEqual(k.watch(("forest",)), len(watched(graph)))
        self.all_right(k)
        self.assertEqual(k.decided, 0)

    def test_what_is_no_question(self):
        graph = path_graph(3)
        k = Keeper(graph)
        k.watch(("connected",))
        before = self.state(k)
        wrong = odd_values() + [(), ("connected", 1), ("colours",), ("colours", -1), ("colours", True), ["forest"],
                                ("isomorphic", (0, ())), ("linked", 0, 5, 1), "forest"]
        for question in wrong + [("linked", 0, 1, 1), ("linked", 0, 2, 0)]:
            with self.assertRaises(BadQuestion):
                k.watch(question)
            self.assertEqual(self.state(k), before)

    def test_numbers_without_a_question(self):
        k = Keeper(path_graph(3))
        for many in range(3):
            for number in (-1, -2, many, many + 1, 10 ** 30, -10 ** 30):
                with self.assertRaises(BadQuestion):
                    k.paper(number)
                with self.assertRaises(BadQuestion):
                    k.answer(number)
            k.watch(("forest",))

    def test_lists_are_new(self):
        k = Keeper(path_graph(3))
        k.watch(("forest",))
        k.questions().append(("planar",))
        k.questions().clear()
        self.assertEqual(k.questions(), [("forest",)])
        with self.assertRaises(BadQuestion):
            k.paper(1)

    def test_keepers_do_not_share_anything(self):
        first, second = Keeper(path_graph(3)), Keeper(path_graph(3))
        first.watch(("forest",))
        first.edit(("new",))
        self.assertEqual(self.state(second), (path_graph(3), [], [], 0))


class Editing(Tries):
    def test_decided(self):
        k = Keeper(path_graph(4))
        for question in (("connected",), ("bipartite",), ("colours", 3), ("independent", 2)):
            k.watch(question)
        self.assertEqual(k.decided, 0)
        edits = [("join", 0, 3), ("new",), ("join", 0, 2), ("part", 0, 1), ("drop", 1), ("drop", 0), ("new",)]
        numbers = []
        for edit in edits:
            graph, asked, papers, _ = self.state(k)
            right = [carried(graph, edit, question, paper) for question, paper in zip(asked, papers)]
            k.edit(edit)
            self.assertEqual(k.graph(), edited(graph, edit))
            self.assertEqual(k.decided, right.count(None))
            numbers.append(k.decided)
            for paper, found in zip(right, self.state(k)[2]):
                self.assertIn(paper, (None, found))
            self.all_right(k)
            k.watch(("forest",))
            self.assertEqual(k.decided, numbers[-1])
        self.assertGreater(len(set(numbers)), 1)
        k.back()
        self.assertEqual(k.decided, numbers[-1])

    def test_without_questions(self):
        k = Keeper((1, ()))
        k.edit(("new",))
        k.edit(("join", 1, 0))
        self.assertEqual(self.state(k), ((2, ((0, 1),)), [], [], 0))

    def test_edits_that_cannot_be_made(self):
        k = Keeper(path_graph(3))
        for question in watched(path_graph(3)):
            k.watch(question)
        k.edit(("join", 0, 2))
        self.assertGreater(k.decided, 0)
        before = self.state(k)
        for edit in (("join", 0, 1), ("join", 1, 1), ("join", 0, 3), ("join", -1, 0), ("part", 0, 0), ("part", 0, 3),
                     ("drop", 3), ("drop", -1)):
            with self.assertRaises(BadEdit):
                k.edit(edit)
            self.assertEqual(self.state(k), before)
        self.assertIs(k.back(), True)
        self.assertIs(k.back(), False)
        full = Keeper((60, ()))
        full.watch(("bipartite",))
        with self.assertRaises(BadEdit):
            full.edit(("new",))
        self.assertIs(full.back(), False)
        least = Keeper((1, ()))
        with self.assertRaises(BadEdit):
            least.edit(("drop", 0))
        self.assertEqual(least.graph(), (1, ()))

    def test_a_paper_that_can_be_carried_is(self):
        k = Keeper(cycle_graph(4))
        k.watch(("connected",))
        paper = k.paper(0)
        k.edit(("join", 0, 2))
        self.assertEqual((k.paper(0), k.decided), (paper, 0))


class Back(Tries):
    def test_several_times(self):
        graph = cycle_graph(5)
        k = Keeper(graph)
        for question in watched(graph):
            k.watch(question)
        states = []
        for edit in (("part", 1, 2), ("new",), ("join", 5, 0), ("drop", 0), ("drop", 2), ("new",)):
            states.append(self.state(k)[:3])
            k.edit(edit)
        decided = k.decided
        while states:
            self.assertIs(k.back(), True)
            self.assertEqual(self.state(k), (*states.pop(), decided))
        for _ in range(3):
            self.assertIs(k.back(), False)
            self.assertEqual(k.graph(), graph)

    def test_questions_that_were_added_in_between(self):
        k = Keeper(path_graph(4))
        k.watch(("forest",))
        first = k.paper(0)
        k.edit(("join", 0, 3))
        k.watch(("bipartite",))
        second = [k.paper(0), k.paper(1)]
        k.edit(("join", 0, 2))
        k.watch(("colours", 2))
        k.watch(("isomorphic", path_graph(4)))
        self.all_right(k)
        self.assertIs(k.back(), True)
        self.assertEqual(k.graph(), cycle_graph(4))
        self.assertEqual([k.paper(0), k.paper(1)], second)
        self.assertEqual([k.answer(at) for at in range(4)], ["no", "yes", "yes", "no"])
        self.all_right(k)
        self.assertIs(k.back(), True)
        self.assertEqual(k.graph(), path_graph(4))
        self.assertEqual(k.paper(0), first)
        self.assertEqual([k.answer(at) for at in range(4)], ["yes", "yes", "yes", "yes"])
        self.assertEqual(len(k.questions()), 4)
        self.all_right(k)
        self.assertIs(k.back(), False)

    def test_edits_after_going_back(self):
        k = Keeper(path_graph(3))
        k.watch(("forest",))
        k.edit(("join", 0, 2))
        k.back()
        k.edit(("new",))
        k.watch(("connected",))
        k.back()
        self.assertEqual((k.graph(), k.answer(0), k.answer(1)), (path_graph(3), "yes", "yes"))
        self.assertIs(k.back(), False)
        self.all_right(k)

    def test_a_question_that_was_added_after_going_back(self):
        k = Keeper(full_graph(3))
        k.edit(("drop", 1))
        k.back()
        k.watch(("planar",))
        k.edit(("drop", 1))
        self.assertIs(k.back(), True)
        self.assertEqual(k.graph(), full_graph(3))
        self.all_right(k)


class ManySteps(Tries):
    def test_drawn_steps(self):
        """At every moment every paper is right, and what was there before an edit comes back."""
        for seed, graph in enumerate(drawn_graphs(61, (1, 3, 5, 6), 6)):
            draw = Random(seed)
            k = Keeper(graph)
            past = []
            for _ in range(25):
                n = k.graph()[0]
                step = draw.randrange(8)
                if step < 2:
                    k.watch(draw.choice(watched(k.graph())))
                elif step < 4:
                    decided = k.decided
                    self.assertIs(k.back(), past != [])
                    self.assertEqual(k.decided, decided)
                    if past:
                        graph, papers = past.pop()
                        self.assertEqual(k.graph(), graph)
                        self.assertEqual([k.paper(at) for at in range(len(papers))], papers)
                else:
                    u, v = draw.randrange(n), draw.randrange(n)
                    edit = draw.choice([("join", u, v), ("part", u, v), ("new",), ("drop", v)])
                    before = self.state(k)
                    try:
                        k.edit(edit)
                        past.append((before[0], before[2]))
                    except BadEdit:
                        self.assertEqual(self.state(k), before)
                        with self.assertRaises(BadEdit):
                            edited(before[0], edit)
                self.all_right(k)
