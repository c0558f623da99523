import unittest

from helpers import all_pairs, small_graphs
from trellis.edits import edited, undoing
from trellis.errors import BadEdit
from trellis.graphs import is_graph, renamed

FULL_60 = (60, tuple(all_pairs(60)))


def right_edited(graph, edit):
    """The edited graph, or None where BadEdit is due, read off the document."""
    n, edges = graph
    if edit == ("new",):
        return (n + 1, edges) if n < 60 else None
    if not all(0 <= v < n for v in edit[1:]):
        return None
    if edit[0] == "drop":
        v = edit[1]
        kept = [edge for edge in edges if v not in edge]
        return (n - 1, tuple(tuple(u - (u > v) for u in edge) for edge in kept)) if n > 1 else None
    pair = tuple(sorted(edit[1:]))
    if edit[1] == edit[2] or (pair in edges) == (edit[0] == "join"):
        return None
    if edit[0] == "join":
        return n, tuple(sorted(edges + (pair,)))
    return n, tuple(edge for edge in edges if edge != pair)


def edits_for(n):
    """All edits with vertices of a graph with n vertices, and some beyond them."""
    vertices = [-n, -1, *range(n + 2), 10 ** 30]
    pairs = [(word, u, v) for word in ("join", "part") for u in vertices for v in vertices]
    return [("new",)] + [("drop", v) for v in vertices] + pairs


class Tries(unittest.TestCase):
    def refuses(self, graph, edit):
        for function in (edited, undoing):
            with self.assertRaises(BadEdit, msg=(graph, edit)):
                function(graph, edit)

    def leads_back(self, graph, edit):
        """The edits of undoing, one after another, lead back, for drop up to the numbers."""
        found = edited(graph, edit)
        for step in undoing(graph, edit):
            found = edited(found, step)
        if edit[0] == "drop":
            n, v = graph[0], edit[1]
            found = renamed(found, tuple(u + (u >= v) for u in range(n - 1)) + (v,))
        self.assertEqual(found, graph, edit)


class Edited(Tries):
    def test_the_example(self):
        self.assertEqual(edited((3, ((0, 2), (1, 2))), ("drop", 1)), (2, ((0, 1),)))

    def test_all_edits_of_small_graphs(self):
        for graph in small_graphs():
            for edit in edits_for(graph[0]):
                right = right_edited(graph, edit)
                if right is None:
                    self.refuses(graph, edit)
                else:
                    self.assertEqual(edited(graph, edit), right, edit)
                    self.assertIs(is_graph(right), True)

    def test_join_puts_the_edge_into_its_place(self):
        graph = (4, ((0, 1), (2, 3)))
        for edit in (("join", 0, 3), ("join", 3, 0)):
            self.assertEqual(edited(graph, edit), (4, ((0, 1), (0, 3), (2, 3))))

    def test_part_takes_either_order(self):
        graph = (4, ((0, 1), (0, 3), (2, 3)))
        for edit in (("part", 0, 3), ("part", 3, 0)):
            self.assertEqual(edited(graph, edit), (4, ((0, 1), (2, 3))))

    def test_join_refuses_neighbours_in_either_order(self):
        for edit in (("join", 0, 1), ("join", 1, 0)):
            self.refuses((2, ((0, 1),)), edit)

    def test_part_refuses_others_in_either_order(self):
        for edit in (("part", 0, 1), ("part", 1, 0)):
            self.refuses((2, ()), edit)

    def test_equal_vertices_are_refused(self):
        for word in ("join", "part"):
            for v in (0, 1):
                self.refuses((2, ((0, 1),)), (word, v, v))

    def test_vertices_that_do_not_exist_are_refused(self):
        graph = (3, ((0, 1),))
        for v in (3, 4, 60, -1, -2, -3, 10 ** 30):
            self.refuses(graph, ("drop", v))
            for word in ("join", "part"):
                for u in (0, v):
                    self.refuses(graph, (word, u, v))
                    self.refuses(graph, (word, v, u))

    def test_sixty_vertices(self):
        graph = (60, ((0, 59), (30, 31)))
        self.refuses(graph, ("new",))
        self.refuses(FULL_60, ("new",))
        self.assertEqual(edited((59, ((0, 58),)), ("new",)), (60, ((0, 58),)))
        self.assertEqual(edited(graph, ("drop", 30)), (59, ((0, 58),)))
        self.assertEqual(edited(graph, ("drop", 59)), (59, ((30, 31),)))
        self.assertEqual(edited(graph, ("join", 59, 58)), (60, ((0, 59), (30, 31), (58, 59))))
        self.assertEqual(edited(graph, ("part", 59, 0)), (60, ((30, 31),)))
        self.assertEqual(edited(FULL_60, ("drop", 7)), (59, tuple(all_pairs(59))))

    def test_one_vertex(self):
        graph = (1, ())
        self.assertEqual(edited(graph, ("new",)), (2, ()))
        for edit in (("drop", 0), ("drop", 1), ("drop", -1), ("join", 0, 0), ("part", 0, 0), ("join", 0, 1)):
            self.refuses(graph, edit)

    def test_what_is_no_edit_is_refused(self):
        for edit in ((), ("jump", 0, 1), ("join",), ("join", 0), ("part", 0, 1, 2), ("new", 0), ("drop",), None):
            self.refuses((3, ((0, 1),)), edit)

    def test_the_kinds_of_the_parts(self):
        for edit in (("new",), ("drop", 0), ("join", 1, 2), ("part", 0, 1)):
            self.assertIs(is_graph(edited((3, ((0, 1), (0, 2))), edit)), True, edit)


class Undoing(Tries):
    def test_join_and_part_keep_the_given_order(self):
        graph = (3, ((0, 1),))
        self.assertEqual(undoing(graph, ("join", 0, 2)), [("part", 0, 2)])
        self.assertEqual(undoing(graph, ("join", 2, 0)), [("part", 2, 0)])
        self.assertEqual(undoing(graph, ("part", 0, 1)), [("join", 0, 1)])
        self.assertEqual(undoing(graph, ("part", 1, 0)), [("join", 1, 0)])

    def test_new_is_dropped(self):
        self.assertEqual(undoing((3, ((0, 1),)), ("new",)), [("drop", 3)])
        self.assertEqual(undoing((1, ()), ("new",)), [("drop", 1)])
        self.assertEqual(undoing((59, ()), ("new",)), [("drop", 59)])

    def test_drop_is_made_again_with_its_edges(self):
        graph = (5, ((0, 2), (1, 3), (2, 3), (2, 4)))
        self.assertEqual(undoing(graph, ("drop", 2)), [("new",), ("join", 0, 4), ("join", 2, 4), ("join", 3, 4)])
        self.assertEqual(undoing(graph, ("drop", 0)), [("new",), ("join", 1, 4)])
        self.assertEqual(undoing(graph, ("drop", 4)), [("new",), ("join", 2, 4)])
        self.assertEqual(undoing((2, ()), ("drop", 0)), [("new",)])

    def test_all_edits_of_small_graphs_lead_back(self):
        for graph in small_graphs():
            for edit in edits_for(graph[0]):
                if right_edited(graph, edit) is not None:
                    self.leads_back(graph, edit)

    def test_sixty_vertices_lead_back(self):
        for v in (0, 7, 59):
            self.leads_back(FULL_60, ("drop", v))
            joins = [("join", u, 59) for u in range(59)]
            self.assertEqual(undoing(FULL_60, ("drop", v)), [("new",)] + joins)
        self.leads_back(FULL_60, ("part", 59, 3))
        self.leads_back((60, ((0, 59),)), ("join", 58, 59))

    def test_the_kinds(self):
        for edit in (("new",), ("drop", 0), ("join", 1, 2), ("part", 0, 1)):
            found = undoing((3, ((0, 1), (0, 2))), edit)
            self.assertIs(type(found), list)
            self.assertEqual({type(step) for step in found}, {tuple})

    def test_the_list_is_new(self):
        graph = (2, ((0, 1),))
        undoing(graph, ("drop", 0)).clear()
        self.assertEqual(undoing(graph, ("drop", 0)), [("new",), ("join", 0, 1)])
