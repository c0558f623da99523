import unittest
from itertools import combinations, permutations, product

import naive
import papers
from helpers import Same, Touchy, all_pairs, odd_values, sets_of, small_graphs
from papers import NUMBERED, PLAIN, questions_for, right_papers
from trellis.checking import check
from trellis.errors import BadQuestion
from trellis.families import cycle_graph, full_graph, grid_graph, path_graph, two_sided
from trellis.graphs import beside, complement, made_graph, renamed

# One graph of each kind with at most four vertices, and some with five.
SHAPES = [(1, ()), (2, ()), (2, ((0, 1),)), (3, ()), (3, ((0, 1),)), path_graph(3), full_graph(3)] + [
    (4, ()), (4, ((1, 3),)), (4, ((0, 3), (1, 2))), (4, ((0, 1), (0, 3))), (4, ((0, 1), (1, 3), (2, 3))),
    (4, ((0, 2), (1, 2), (2, 3))), (4, ((0, 2), (0, 3), (2, 3))), cycle_graph(4),
    (4, ((0, 2), (0, 3), (1, 3), (2, 3))), (4, ((0, 1), (0, 2), (0, 3), (1, 2), (2, 3))), full_graph(4),
]
FIVES = [cycle_graph(5), two_sided(2, 3), (5, ((0, 1), (0, 2), (1, 2), (1, 3), (2, 4))), full_graph(5)]
SPIDER = (7, ((0, 1), (0, 2), (0, 3), (1, 4), (2, 5), (3, 6)))
PETERSEN = made_graph(
    10, [edge for i in range(5) for edge in ((i, (i + 1) % 5), (i, i + 5), (i + 5, (i + 2) % 5 + 5))]
)


def others_for(graph):
    """Other graphs for isomorphic: equally large ones of another kind, one alike, and others."""
    n, edges = graph
    alike = renamed(graph, (*range(1, n), 0))
    same_size = [other for other in SHAPES + FIVES if other[0] == n and len(other[1]) == len(edges)]
    return [alike, (1, ()), (n, ())] + [other for other in same_size if other != graph]


def changes(value):
    """Values that differ from a value in one place."""
    if isinstance(value, tuple):
        yield from (list(value), value[::-1], value + ((),), value + (0,), value + value[-1:], (value,), None, 0)
        for at, item in enumerate(value):
            yield value[:at] + value[at + 1:]
            yield value[:at] + (item,) + value[at:]
            yield value[:at] + value[at + 1:at + 2] + (item,) + value[at + 2:]
            for other in changes(item):
                yield value[:at] + (other,) + value[at + 1:]
    elif isinstance(value, str):
        yield from ("yes", "no", value + "_", value.upper(), "", 0, None, (value,), value.encode(), Same(), Touchy())
        yield from ("union", "join", "clash", "degree", "graph", "complement")
    else:
        yield from (value + 1, value - 1, -value, 0, 10 ** 30, bool(value), value == 0)
        yield from (float(value), str(value), (value,), None, Touchy(), "yes")


class Tries(unittest.TestCase):
    def takes(self, graph, question, *paper):
        self.assertIs(check(graph, question, paper), True, (graph, question, paper))

    def refuses(self, graph, question, *paper):
        self.assertIs(check(graph, question, paper), False)

    def agrees(self, graph, question, paper):
        found = check(graph, question, paper)
        self.assertIs(found, naive.right(graph, question, paper))
        return found


class Questions(Tries):
    def test_the_examples(self):
        path, square, triangle = path_graph(3), cycle_graph(4), full_graph(3)
        self.takes(path, ("connected",), "yes", ((0, 1), (1, 2)))
        self.refuses(path, ("connected",), "no", (0,))
        self.takes(square, ("block",), "yes", ((0, 1, 2, 3),))
        self.takes(square, ("linked", 0, 2, 3), "no", (1, 3))
        self.takes(triangle, ("forests", 1), "no", (0, 1, 2))
        self.takes(triangle, ("trees", 2), "no", ((0,), (1,), (2,)))
        self.takes(path, ("interval",), "yes", ((0, 1), (1, 2), (2, 3)))
        self.takes((2, ()), ("prime",), "yes", ((),))
        self.takes(triangle, ("outerplanar",), "yes", (0, 1, 2))
        self.takes(triangle, ("colours", 2), "no", ("clique", (0, 1, 2)))
        self.takes(square, ("independent", 3), "no", ("cover", ((0, 1), (2, 3))))

    def test_what_is_no_question(self):
        graph = path_graph(3)
        wrong = odd_values() + [
            (), 0, "connected", ["connected"], ("connect",), ("connected", 1), ("degenerate",), ("degenerate", -1),
            ("degenerate", True), ("width", 1, 1), ("linked", 0, 0, 1), ("linked", 0, 3, 1), ("linked", 0, 1, -1),
            ("linked", 0, 1), ("isomorphic",), ("isomorphic", (0, ())), ("isomorphic", [3, ()]), (("connected",),),
        ]
        for question in wrong:
            for paper in (("yes", ((0, 1), (1, 2))), ("no", ()), None, Touchy()):
                with self.assertRaises(BadQuestion):
                    check(graph, question, paper)

    def test_a_question_of_another_graph(self):
        with self.assertRaises(BadQuestion):
            check((3, ()), ("linked", 0, 3, 0), ("yes", ()))
        self.takes((4, ()), ("linked", 0, 3, 0), "yes", ())


class SmallGraphs(Tries):
    """Right papers are found by going through all that might be right, and others are told by a second check."""

    def papers(self, graphs, most=1):
        for graph in graphs:
            for question in questions_for(graph, others_for(graph)):
                for paper in right_papers(graph, question, most):
                    yield graph, question, paper

    def test_every_kind_of_paper_is_taken(self):
        seen = set()
        for graph, question, paper in self.papers(SHAPES + FIVES, 3):
            self.takes(graph, question, *paper)
            seen.add((question[0], paper[0]))
        kinds = [*PLAIN, *NUMBERED, "linked", "isomorphic"]
        self.assertEqual(seen, set(product(kinds, ("yes", "no"))))

    def test_papers_changed_in_one_place(self):
        taken = 0
        for graph, question, paper in self.papers(SHAPES + FIVES[:1]):
            right = paper[0]
            for changed in changes(paper):
                if self.agrees(graph, question, changed):
                    taken += 1
                    self.assertEqual(changed[0], right)
        self.assertGreater(taken, 0)

    def test_papers_of_five_vertices_changed_in_one_place(self):
        for graph in FIVES[1:]:
            for kind in ("block", "comparability", "permutation", "cograph", "planar", "outerplanar", "chordal"):
                for paper in right_papers(graph, (kind,)):
                    for changed in changes(paper):
                        self.agrees(graph, (kind,), changed)

    def test_papers_with_the_other_answer(self):
        for graph, question, (answer, data) in self.papers(SHAPES + FIVES[:2], 2):
            self.refuses(graph, question, "no" if answer == "yes" else "yes", data)

    def test_papers_of_other_graphs(self):
        for graph, question, paper in self.papers(SHAPES[:11:2] + SHAPES[11:], 2):
            for other in small_graphs()[:11] + small_graphs()[11::3] + FIVES[:1]:
                if question[0] != "linked" or max(question[1:3]) < other[0]:
                    self.agrees(other, question, paper)

    def test_papers_of_other_questions(self):
        for graph in SHAPES[4:]:
            questions = questions_for(graph, others_for(graph))
            found = {paper for question in questions[::2] for paper in right_papers(graph, question)}
            for question, paper in product(questions, sorted(found, key=repr)):
                self.agrees(graph, question, paper)

    def test_values_that_are_no_paper(self):
        for graph in (SHAPES[0], SHAPES[5], SHAPES[-1]):
            for question in questions_for(graph, others_for(graph)[:2]):
                for value in odd_values() + [(), 0, 1, "yes", "no", ("yes",), ("no",), ("yes", (), ()), ["yes", ()]]:
                    self.assertIs(check(graph, question, value), False)

    def test_values_that_are_no_data(self):
        for graph in SHAPES[::4]:
            for question in questions_for(graph, others_for(graph)[:2]):
                for value in odd_values() + [(), 0, 1]:
                    for answer in ("yes", "no"):
                        self.agrees(graph, question, (answer, value))
                        self.agrees(graph, question, (answer, (value,) * graph[0]))
                        self.agrees(graph, question, (answer, ((value, value),)))

    def test_values_that_are_no_answer(self):
        for graph, question, (_, data) in self.papers(SHAPES[::5]):
            for answer in odd_values() + [(), 0, 1, "maybe", "Yes", "yes ", "NO", b"yes", ("yes",), ["yes"]]:
                self.refuses(graph, question, answer, data)


class AllSetsAndOrders(Tries):
    """Whatever is told by a set, an order or a row of vertices, for all of these."""

    def test_all_sets(self):
        kinds = ("degenerate", "indegree", "forests", "matching", "independent")
        numbered = [(kind, k) for kind in kinds for k in range(4)]
        for graph in small_graphs():
            for members in sets_of(graph[0]):
                for question in [("connected",), ("bipartite",), ("prime",), *numbered]:
                    for answer in ("yes", "no"):
                        self.agrees(graph, question, (answer, members))
                for removed in sets_of(graph[0]):
                    self.agrees(graph, ("block",), ("no", (removed, members)))

    def test_all_rows(self):
        plain = [("forest",), ("bipartite",), ("chordal",), ("outerplanar",), ("cograph",), ("degenerate", 1)]
        for graph in small_graphs():
            for many in range(graph[0] + 1):
                for row in permutations(range(graph[0]), many):
                    for question in plain:
                        for answer in ("yes", "no"):
                            self.agrees(graph, question, (answer, row))
                    self.agrees(graph, ("interval",), ("no", ("hole", row)))

    def test_all_directions(self):
        for graph in SHAPES + FIVES[:3]:
            for arrows in product(*[((u, v), (v, u)) for u, v in graph[1]]):
                for question in (("comparability",), ("indegree", 1), ("indegree", 2)):
                    self.agrees(graph, question, ("yes", arrows))

    def test_all_cuts(self):
        for graph in small_graphs():
            for s, t in permutations(range(graph[0]), 2):
                for members in sets_of(graph[0]):
                    for k in range(4):
                        self.agrees(graph, ("linked", s, t, k), ("no", members))

    def test_all_tuples_of_paths(self):
        for graph in SHAPES + FIVES:
            for s, t in ((0, 1), (1, 0), (0, graph[0] - 1))[:2 * graph[0] - 2]:
                paths = [found[0] for found in papers.linked_yes(naive.Graph(graph), s, t, 1)]
                for many in range(4):
                    for row in list(product(paths, repeat=many))[::1 if graph[0] < 5 else 13]:
                        self.agrees(graph, ("linked", s, t, many), ("yes", row))
                        self.agrees(graph, ("linked", s, t, 2), ("yes", row))

    def test_all_colourings_and_partitions(self):
        for graph in SHAPES:
            for k in range(4):
                for colours in product(range(4), repeat=graph[0]):
                    self.agrees(graph, ("colours", k), ("yes", colours))
                for partition in papers.partitions(list(range(graph[0]))):
                    for form in (partition, partition[::-1], partition[1:], partition + ((0,),), ((), *partition)):
                        self.agrees(graph, ("trees", k), ("no", form))

    def test_all_parts_of_edges(self):
        for graph in SHAPES[:-1] + FIVES[:3]:
            for many in range(4):
                for parts in list(papers.parts_of_edges(naive.Graph(graph), many))[::1 if many < 3 else 3]:
                    for k in range(4):
                        self.agrees(graph, ("forests", k), ("yes", parts))
                        self.agrees(graph, ("forests", k), ("yes", parts[1:]))
                        self.agrees(graph, ("trees", k), ("yes", parts[:k]))

    def test_all_intervals_of_three(self):
        ends = list(product(range(3), repeat=2))
        for graph in SHAPES[3:7]:
            for intervals in product(ends, repeat=3):
                self.agrees(graph, ("interval",), ("yes", intervals))

    def test_all_rotations(self):
        for graph in SHAPES + [full_graph(5)]:
            near = naive.Graph(graph).near
            items = [list(permutations(sorted(near[v]))) for v in range(graph[0])]
            for rotation in list(product(*items))[::1 if graph[0] < 5 else 80021]:
                self.agrees(graph, ("planar",), ("yes", rotation))

    def test_all_short_chains(self):
        for graph in SHAPES[4:] + FIVES[:1]:
            arrows = sorted(list(graph[1]) + [(v, u) for u, v in graph[1]])
            for many in range(4):
                for chain in list(product(arrows, repeat=many))[::1 if graph[0] < 4 else 3]:
                    self.agrees(graph, ("comparability",), ("no", chain))

    def test_chains_of_all_pairs_of_three(self):
        """Chains of pairs that may be no arrows, from each pair to the same with its ends exchanged."""
        pairs = list(permutations(range(3), 2))
        for graph in [graph for graph in small_graphs() if graph[0] == 3]:
            for first, second, third in product(pairs, repeat=3):
                for fourth in ((), (second,)):
                    chain = (first, second, third, *fourth, first[::-1])
                    self.agrees(graph, ("comparability",), ("no", chain))
                    self.agrees(graph, ("permutation",), ("no", ("complement", chain)))

    def test_chains_of_all_pairs_of_four(self):
        triangle = ((0, 1), (2, 1), (2, 0), (1, 0))
        for graph in small_graphs()[-64:]:
            for chain in (triangle, ((0, 1), (0, 2), (1, 2), (1, 0)), ((0, 1), (0, 2), (3, 2), (3, 0), (1, 0)),
                          ((0, 1), (2, 1), (2, 3), (0, 3), (0, 1), (1, 0))):
                self.agrees(graph, ("comparability",), ("no", chain))
                self.agrees(graph, ("permutation",), ("no", ("graph", chain)))
                self.agrees(graph, ("permutation",), ("no", ("complement", chain)))

    def test_all_pairs_of_orders_of_three(self):
        for graph in SHAPES[3:7]:
            for orders in product(permutations(range(3)), repeat=2):
                self.agrees(graph, ("permutation",), ("yes", orders))

    def test_all_trees_of_three(self):
        for graph in SHAPES[3:7]:
            for tree in papers.trees((0, 1, 2)):
                self.agrees(graph, ("cograph",), ("yes", tree))
                for words in (tree[1:], ("prime",) + tree[1:], ("union", tree), ("join", tree, 0)):
                    self.agrees(graph, ("cograph",), ("yes", words))

    def test_all_colour_searches_with_two_splits(self):
        for k, members in ((0, [(0,), (1,), (2,)]), (1, all_pairs(3))):
            ends = [("clique", clique) for clique in members]
            some = ends + [("split", u, v, a, b) for u, v in all_pairs(3) for a, b in product(ends, repeat=2)]
            deep = [("split", u, v, a, b) for u, v in all_pairs(3) for a, b in product(some, repeat=2)]
            for graph in SHAPES[1:7]:
                for search in some + deep:
                    self.agrees(graph, ("colours", k), ("no", search))

    def test_all_set_searches_with_two_steps(self):
        covers = ((), ((0,),), ((1,),), ((1, 2),), ((0,), (2,)), ((0,), (1,), (2,)))
        ends = [("cover", cover) for cover in covers]
        some = ends + [("take", v, a, b) for v in range(3) for a, b in product(ends, repeat=2)]
        deep = [("take", v, a, b) for v in range(3) for a, b in product(some, repeat=2)]
        for graph in SHAPES[1:7]:
            for search in some + deep[::3]:
                for k in (1, 2, 3):
                    self.agrees(graph, ("independent", k), ("no", search))

    def test_all_brambles_of_two_and_three_sets(self):
        for graph in SHAPES[:7] + [SHAPES[14]]:
            for many in (0, 1, 2, 3):
                for bramble in combinations(sets_of(graph[0]), many):
                    for k in range(3):
                        self.agrees(graph, ("width", k), ("no", bramble))


def straight(corners, pairs):
    return tuple((corners[i], corners[j]) for i, j in pairs)


FIVE = list(combinations(range(5), 2))
THREE = list(product((0, 1, 2), (3, 4, 5)))
FOUR = list(combinations(range(4), 2))
TWO = list(product((0, 1), (2, 3, 4)))


class Bodies(Tries):
    """The graphs that keep others from being drawn."""

    def test_five_corners(self):
        graph, corners = full_graph(5), (0, 1, 2, 3, 4)
        self.takes(graph, ("planar",), "no", ("five", corners, straight(corners, FIVE)))
        turned = (3, 0, 4, 1, 2)
        self.takes(graph, ("planar",), "no", ("five", turned, straight(turned, FIVE)))
        for word in ("three", "four", "two", "FIVE", 5, None):
            self.refuses(graph, ("planar",), "no", (word, corners, straight(corners, FIVE)))
        self.refuses(graph, ("planar",), "yes", ("five", corners, straight(corners, FIVE)))
        self.refuses(graph, ("outerplanar",), "no", ("five", corners, straight(corners, FIVE)))
        self.refuses((5, graph[1][1:]), ("planar",), "no", ("five", corners, straight(corners, FIVE)))

    def test_six_corners(self):
        graph, corners = two_sided(3, 3), (0, 1, 2, 3, 4, 5)
        self.takes(graph, ("planar",), "no", ("three", corners, straight(corners, THREE)))
        self.takes(graph, ("planar",), "no", ("three", corners[::-1], straight(corners[::-1], THREE)))
        self.refuses(graph, ("planar",), "no", ("three", (0, 1, 3, 2, 4, 5), straight((0, 1, 3, 2, 4, 5), THREE)))
        self.refuses(graph, ("planar",), "no", ("five", corners, straight(corners, THREE)))

    def test_every_change_of_a_body(self):
        for graph, kind, word, pairs in (
            (full_graph(5), "planar", "five", FIVE), (two_sided(3, 3), "planar", "three", THREE),
            (full_graph(5), "outerplanar", "four", FOUR), (two_sided(2, 3), "outerplanar", "two", TWO),
        ):
            corners = tuple(range(1 + max(map(max, pairs))))
            paper = ("no", (word, corners, straight(corners, pairs)))
            self.takes(graph, (kind,), *paper)
            for changed in changes(paper):
                self.agrees(graph, (kind,), changed)

    def test_vertices_on_the_paths(self):
        """Petersen's graph contains six corners with nine paths, some of which have inner vertices."""
        graph = naive.Graph(PETERSEN)
        corners, found = next(
            (row, found) for row in permutations(range(10), 6)
            for found in papers.separate_paths(graph, straight(row, THREE), set(row), ())
        )
        paper = ("no", ("three", corners, found))
        self.takes(PETERSEN, ("planar",), *paper)
        for changed in changes(paper):
            self.agrees(PETERSEN, ("planar",), changed)

    def test_paths_that_share_inner_vertices(self):
        direct = [pair for pair in FIVE if pair not in ((0, 1), (2, 3))]
        graph = made_graph(7, direct + [(0, 5), (1, 5), (2, 5), (3, 5)])
        paths = list(straight(range(5), FIVE))
        paths[FIVE.index((0, 1))] = (0, 5, 1)
        paths[FIVE.index((2, 3))] = (2, 5, 3)
        self.refuses(graph, ("planar",), "no", ("five", (0, 1, 2, 3, 4), tuple(paths)))
        graph = made_graph(7, list(graph[1]) + [(2, 6), (3, 6)])
        paths[FIVE.index((2, 3))] = (2, 6, 3)
        self.takes(graph, ("planar",), "no", ("five", (0, 1, 2, 3, 4), tuple(paths)))

    def test_paths_through_corners(self):
        graph = full_graph(5)
        graph = (5, tuple(edge for edge in graph[1] if edge != (0, 1)))
        paths = list(straight(range(5), FIVE))
        paths[0] = (0, 2, 1)
        self.refuses(graph, ("planar",), "no", ("five", (0, 1, 2, 3, 4), tuple(paths)))

    def test_sixty_vertices(self):
        graph = full_graph(60)
        for word, kind, pairs in (("five", "planar", FIVE), ("three", "planar", THREE), ("four", "outerplanar", FOUR),
                                  ("two", "outerplanar", TWO)):
            many = 1 + max(map(max, pairs))
            corners = tuple(range(60 - many, 60))
            inner = iter(range(30))
            paths = tuple((corners[i], next(inner), next(inner), corners[j]) for i, j in pairs)
            self.takes(graph, (kind,), "no", (word, corners, paths))
            self.refuses(graph, (kind,), "no", (word, corners, paths[:-1] + (paths[-1] + (0,),)))
            self.refuses(graph, (kind,), "no", (word, corners, paths[1:] + paths[:1]))


class LargerGraphs(Tries):
    def test_asteroids(self):
        paper = ("no", ("asteroid", 4, 5, 6, (4, 1, 0, 2, 5), (5, 2, 0, 3, 6), (6, 3, 0, 1, 4)))
        self.takes(SPIDER, ("interval",), *paper)
        self.refuses(SPIDER, ("interval",), "no", ("asteroid", 1, 2, 3, (1, 0, 2), (2, 0, 3), (3, 0, 1)))
        for changed in changes(paper):
            self.agrees(SPIDER, ("interval",), changed)
        self.assertEqual(next(iter(papers.interval_no(naive.Graph(SPIDER))))[0], "hole")

    def test_long_holes(self):
        for n in (4, 5, 59, 60):
            hole = tuple(range(n))
            for kind, data in (("chordal", hole), ("interval", ("hole", hole))):
                self.takes(cycle_graph(n), (kind,), "no", data)
                self.refuses(cycle_graph(n), (kind,), "yes", data)
                self.refuses(made_graph(n, list(cycle_graph(n)[1]) + [(0, 2)]), (kind,), "no", data)
        self.refuses(cycle_graph(3), ("chordal",), "no", (0, 1, 2))
        self.takes(cycle_graph(59), ("bipartite",), "no", tuple(range(59)))
        self.refuses(cycle_graph(60), ("bipartite",), "no", tuple(range(60)))

    def test_full_and_empty_graphs_of_sixty(self):
        order, full, empty = tuple(range(60)), full_graph(60), (60, ())
        singles = tuple((v,) for v in range(60))
        self.takes(full, ("connected",), "yes", tuple((0, v) for v in range(1, 60)))
        self.takes(empty, ("connected",), "no", (59,))
        self.takes(full, ("chordal",), "yes", order)
        self.takes(full, ("degenerate", 59), "yes", order)
        self.takes(full, ("degenerate", 58), "no", order)
        self.takes(full, ("indegree", 29), "no", order)
        self.takes(full, ("forests", 29), "no", order)
        self.takes(full, ("trees", 31), "no", singles)
        self.takes(full, ("interval",), "yes", ((-10 ** 40, 10 ** 40),) * 60)
        self.takes(empty, ("interval",), "yes", tuple((v, v) for v in range(60)))
        self.takes(full, ("comparability",), "yes", full[1])
        self.takes(full, ("permutation",), "yes", (order, order[::-1]))
        self.takes(empty, ("permutation",), "yes", (order, order))
        self.takes(full, ("cograph",), "yes", ("join", *order))
        self.takes(empty, ("cograph",), "yes", ("union", *order))
        self.takes(full, ("prime",), "no", (58, 59))
        self.takes(full, ("width", 59), "yes", ((order,), ()))
        self.takes(full, ("width", 58), "no", singles)
        self.refuses(full, ("width", 59), "no", singles)
        self.takes(full, ("colours", 60), "yes", order)
        self.takes(full, ("colours", 59), "no", ("clique", order))
        self.takes(empty, ("independent", 60), "yes", order)
        self.takes(full, ("independent", 2), "no", ("cover", (order,)))
        self.takes(full, ("matching", 30), "yes", tuple((v, v + 1) for v in range(0, 60, 2)))
        self.takes(full, ("matching", 31), "no", ())
        self.takes(empty, ("matching", 1), "no", ())
        self.takes(full, ("isomorphic", full), "yes", order[::-1])
        self.takes(full, ("isomorphic", empty), "no", ("sizes",))
        self.takes(full, ("linked", 0, 59, 59), "yes", ((0, 59), *[(0, v, 59) for v in range(1, 59)]))
        self.takes(full, ("linked", 0, 59, 60), "no", tuple(range(1, 59)))
        self.takes(empty, ("planar",), "yes", ((),) * 60)
        self.takes(empty, ("outerplanar",), "yes", order)

    def test_the_least_blocks(self):
        self.takes((1, ()), ("block",), "yes", ())
        self.takes((2, ((0, 1),)), ("block",), "yes", ())
        self.refuses((2, ()), ("block",), "yes", ())
        self.takes((2, ()), ("block",), "no", ((), (1,)))
        for graph in ((1, ()), (2, ()), (2, ((0, 1),))):
            for ears in (((0,),), ((0, 1),), ((0, 1, 0),), ((),)):
                self.refuses(graph, ("block",), "yes", ears)
        self.refuses(full_graph(3), ("block",), "yes", ())
        self.refuses(full_graph(3), ("block",), "yes", ((0, 1), (1, 2), (0, 2)))

    def test_ears_of_a_grid(self):
        graph = grid_graph(3, 3)
        ears = ((0, 1, 4, 3), (1, 2, 5, 4), (3, 6, 7, 4), (5, 8, 7))
        self.takes(graph, ("block",), "yes", ears)
        self.refuses(graph, ("block",), "yes", ears[:3])
        self.refuses(graph, ("block",), "yes", (ears[0], ears[3], ears[1], ears[2]))
        self.refuses(graph, ("block",), "yes", ears[1:])
        self.takes(graph, ("block",), "yes", ears + ((0, 1), (0, 1)))
        for ear in ((0,), (), (8,), (0, 1, 0), (0, 2), (0, 1, 2), 0, [0, 1]):
            self.refuses(graph, ("block",), "yes", ears + (ear,))
        for changed in changes(("yes", ears)):
            self.agrees(graph, ("block",), changed)

    def test_a_drawing_of_a_grid(self):
        rows, columns = 6, 10
        around = [((i - 1, j), (i, j + 1), (i + 1, j), (i, j - 1)) for i in range(rows) for j in range(columns)]
        rotation = tuple(
            tuple(10 * a + b for a, b in places if 0 <= a < rows and 0 <= b < columns) for places in around
        )
        graph = grid_graph(rows, columns)
        self.takes(graph, ("planar",), "yes", rotation)
        self.takes(graph, ("planar",), "yes", tuple(item[::-1] for item in rotation))
        swapped = rotation[11][1::-1] + rotation[11][2:]
        self.refuses(graph, ("planar",), "yes", rotation[:11] + (swapped,) + rotation[12:])

    def test_a_decomposition_of_a_grid(self):
        bags = tuple(tuple(range(v, v + 5)) for v in range(12))
        links = tuple((at, at + 1) for at in range(11))
        graph = grid_graph(4, 4)
        self.takes(graph, ("width", 4), "yes", (bags, links))
        self.refuses(graph, ("width", 3), "yes", (bags, links))
        lines = [({4 * i + a for a in range(4)}, {4 * a + j for a in range(4)}) for i in range(4) for j in range(4)]
        crosses = tuple(tuple(sorted(row | column)) for row, column in lines)
        self.takes(graph, ("width", 2), "no", crosses)
        self.refuses(graph, ("width", 3), "no", crosses)

    def test_parts_side_by_side(self):
        graph = beside(full_graph(4), cycle_graph(5))
        self.takes(graph, ("connected",), "no", (0, 1, 2, 3))
        self.takes(graph, ("connected",), "no", (4, 5, 6, 7, 8))
        self.refuses(graph, ("connected",), "no", (0, 1, 2, 4))
        self.takes(graph, ("block",), "no", ((), (0, 1, 2, 3)))
        self.takes(graph, ("block",), "no", ((8,), (0, 1, 2, 3)))
        self.takes(graph, ("matching", 5), "no", ())
        self.takes(graph, ("prime",), "no", (0, 1, 2, 3))

    def test_chains_of_an_odd_cycle(self):
        graph = cycle_graph(5)
        chain = ((0, 1), (2, 1), (2, 3), (4, 3), (4, 0), (1, 0))
        self.takes(graph, ("comparability",), "no", chain)
        self.takes(graph, ("permutation",), "no", ("graph", chain))
        self.refuses(graph, ("permutation",), "no", ("complement", chain))
        other = complement(graph)
        self.takes(other, ("permutation",), "no", ("complement", chain))
        self.refuses(other, ("permutation",), "no", ("graph", chain))
        for changed in changes(("no", ("graph", chain))):
            self.agrees(graph, ("permutation",), changed)


class PairingSearches(Tries):
    def test_graphs_whose_vertices_all_look_alike(self):
        """A hexagon and two triangles: only clashes tell them apart."""
        graph, other = cycle_graph(6), beside(full_graph(3), full_graph(3))
        for question in (("isomorphic", other), ("isomorphic", renamed(other, (0, 3, 1, 4, 2, 5)))):
            paper = ("no", next(papers.pairing_searches(naive.Graph(graph), naive.Graph(question[1]), [], 1)))
            self.assertIn("clash", repr(paper))
            self.takes(graph, question, *paper)
            self.refuses(graph, ("isomorphic", graph), *paper)
            for changed in list(changes(paper))[::11]:
                self.agrees(graph, question, changed)

    def test_every_reason_at_every_place(self):
        path, star = path_graph(4), two_sided(1, 3)
        reasons = [("clash",), ("degree",), ("sizes",)] + [("near", d) for d in range(-1, 4)]
        for graph, other in product((path, star, beside(full_graph(3), (1, ()))), repeat=2):
            for v in range(4):
                for reason in reasons:
                    search = ("try", v, (reason,) * 4)
                    self.agrees(graph, ("isomorphic", other), ("no", search))
                    self.agrees(graph, ("isomorphic", other), ("no", reason))
                    for u, later in product(range(4), reasons):
                        for at in range(4):
                            second = ("try", u, (later,) * 3)
                            search = ("try", v, (reason,) * at + (second,) + (reason,) * (3 - at))
                            self.agrees(graph, ("isomorphic", other), ("no", search))

    def test_a_vertex_that_is_in_a_pair_already(self):
        degree = ("degree",)
        again = ("try", 1, (degree, degree, degree))
        question = ("isomorphic", two_sided(1, 3))
        self.takes(path_graph(4), question, "no", ("try", 1, (degree, degree, degree, degree)))
        self.refuses(path_graph(4), question, "no", ("try", 1, (degree, degree, degree, again)))
        self.takes(path_graph(4), question, "no", ("try", 1, (degree, degree, degree, ("try", 2, (degree,) * 3))))

    def test_different_sizes(self):
        degree = ("degree",)
        self.takes(path_graph(3), ("isomorphic", (3, ())), "no", ("sizes",))
        self.takes(path_graph(3), ("isomorphic", (4, ((0, 1), (0, 2)))), "no", ("sizes",))
        self.refuses(path_graph(3), ("isomorphic", (3, ())), "no", ("try", 0, (degree, degree, degree)))
        self.refuses(path_graph(4), ("isomorphic", two_sided(1, 3)), "no", ("sizes",))
        self.refuses(path_graph(3), ("isomorphic", path_graph(3)), "no", ("sizes",))


class LargeNumbers(Tries):
    def test_numbers_beyond_the_graph(self):
        huge = 10 ** 40
        graph = path_graph(3)
        self.takes(graph, ("degenerate", huge), "yes", (0, 1, 2))
        self.takes(graph, ("indegree", huge), "yes", graph[1])
        self.takes(graph, ("forests", huge), "yes", ((), ((0, 1), (1, 2)), ()))
        self.takes(graph, ("trees", huge), "no", ((0,), (1,), (2,)))
        self.takes((1, ()), ("trees", huge), "yes", ())
        self.takes(graph, ("width", huge), "yes", (((0, 1, 2),), ()))
        self.refuses(graph, ("width", huge), "no", ((0,), (0, 1)))
        self.takes(graph, ("colours", huge), "yes", (huge - 1, 0, huge - 1))
        self.refuses(graph, ("colours", huge), "yes", (huge, 0, huge))
        self.takes(graph, ("independent", huge), "no", ("cover", ((0, 1), (2,))))
        self.takes(graph, ("matching", huge), "no", ())
        self.takes(graph, ("linked", 0, 2, huge), "no", (1,))
        self.refuses(graph, ("linked", 0, 2, huge), "yes", ())

    def test_zero(self):
        self.takes((1, ()), ("trees", 0), "yes", ())
        self.takes((2, ()), ("trees", 0), "yes", ())
        self.takes((2, ()), ("forests", 0), "yes", ())
        self.takes((2, ((0, 1),)), ("forests", 0), "no", (0, 1))
        self.takes((1, ()), ("colours", 0), "no", ("clique", (0,)))
        self.takes((1, ()), ("independent", 0), "yes", ())
        self.takes((1, ()), ("matching", 0), "yes", ())
        self.takes((2, ()), ("linked", 1, 0, 0), "yes", ())
        self.takes((1, ()), ("degenerate", 0), "yes", (0,))
        self.takes((1, ()), ("width", 0), "yes", (((0,),), ()))
        self.takes((2, ((0, 1),)), ("width", 0), "no", ((0,), (1,)))


class DeepValues(Tries):
    def nested(self, depth, wrap, value):
        for _ in range(depth):
            value = wrap(value)
        return value

    def test_deep_values_are_answered(self):
        graph = full_graph(3)
        for depth in (200, 100000):
            for value in (
                self.nested(depth, lambda x: (x,), ()),
                self.nested(depth, lambda x: ("union", x, 0), 1),
                self.nested(depth, lambda x: ("join", 0, x), 1),
                self.nested(depth, lambda x: ("split", 0, 1, x, x), ("clique", (0,))),
                self.nested(depth, lambda x: ("take", 0, x, x), ("cover", ())),
                self.nested(depth, lambda x: ("try", 0, (x, x, x)), ("clash",)),
            ):
                for kind in ("cograph", "connected", "planar", "interval"):
                    self.refuses(graph, (kind,), "yes", value)
                    self.refuses(graph, (kind,), "no", value)
                for kind in ("colours", "independent"):
                    self.refuses(graph, (kind, 2), "no", value)
                self.refuses(graph, ("isomorphic", (3, ((0, 1),))), "no", value)
                self.refuses(path_graph(3), ("isomorphic", (3, ((0, 1), (0, 2)))), "no", value)

    def test_deep_right_papers(self):
        graph = made_graph(60, [(u, v) for v in range(1, 60, 2) for u in range(v)])
        tree = 0
        for v in range(1, 60):
            tree = ("join" if v % 2 else "union", tree, v)
        self.takes(graph, ("cograph",), "yes", tree)
        self.refuses(graph, ("cograph",), "yes", ("union", *tree[1:]))
        search = ("cover", ())
        for v in range(60):
            search = ("take", v, ("cover", ()), search)
        self.takes(full_graph(60), ("independent", 2), "no", search)
        self.refuses(full_graph(60), ("independent", 1), "no", search)
        self.refuses(made_graph(60, full_graph(60)[1][1:]), ("independent", 2), "no", search)

    def test_deep_colour_searches(self):
        for n in (2, 12, 25):
            same, search = ("clique", (0,)), ("clique", (n - 1,))
            for u, v in reversed(all_pairs(n)):
                search = ("split", u, v, same, search)
            self.takes((n, ()), ("colours", 0), "no", search)
            self.refuses((n, ()), ("colours", 1), "no", search)
            self.refuses((n, ((0, 1),)), ("colours", 0), "no", search)


class Arguments(Tries):
    def test_a_check_changes_nothing(self):
        graph = cycle_graph(5)
        for question in questions_for(graph):
            for paper in right_papers(graph, question):
                before = repr((graph, question, paper))
                self.assertEqual([check(graph, question, paper) for _ in range(2)], [True, True])
                self.assertEqual(repr((graph, question, paper)), before)
