import unittest
from itertools import permutations, product

from helpers import all_pairs, graphs_of_size, joined_by_walks, odd_values, sets_of, small_graphs
from trellis.errors import BadGraph
from trellis.graphs import (
    are_neighbours, beside, complement, components, induced, inside, is_connected, is_graph, made_graph, neighbours,
    renamed,
)

FULL_60 = (60, tuple(all_pairs(60)))
PATH_60 = (60, tuple((v, v + 1) for v in range(59)))


class IsGraph(unittest.TestCase):
    def takes(self, value):
        self.assertIs(is_graph(value), True, repr(value))

    def refuses(self, value):
        self.assertIs(is_graph(value), False)

    def test_takes_graphs(self):
        for graph in small_graphs() + [(60, ()), (60, ((58, 59),)), FULL_60, PATH_60]:
            self.takes(graph)

    def test_refuses_other_values(self):
        for value in odd_values() + [(), 0, 1, 59]:
            self.refuses(value)

    def test_refuses_other_values_in_place_of_the_number(self):
        for value in odd_values() + [(), (1, ())]:
            self.refuses((value, ()))
        self.refuses((True, ()))
        self.refuses((2.0, ((0, 1),)))

    def test_refuses_numbers_of_vertices_that_are_too_small_or_too_large(self):
        for n in (0, -1, -60, 61, 62, 10 ** 30):
            self.refuses((n, ()))
        self.refuses((0, ((0, 1),)))
        self.refuses((61, tuple(all_pairs(61))))

    def test_refuses_other_values_in_place_of_the_edges(self):
        for value in odd_values() + [0, 1, (0, 1)]:
            self.refuses((3, value))
        self.refuses((3, [(0, 1)]))
        self.refuses((3, {(0, 1): True}))

    def test_refuses_other_values_in_place_of_an_edge(self):
        for value in odd_values() + [(), 0, 1]:
            self.refuses((3, (value,)))
            self.refuses((3, ((0, 1), value)))
            self.refuses((3, (value, (1, 2))))
        self.refuses((3, ([0, 1],)))

    def test_refuses_other_values_in_place_of_a_vertex(self):
        for value in odd_values() + [(), (0, 1)]:
            self.refuses((3, ((value, 2),)))
            self.refuses((3, ((0, value),)))
        self.refuses((3, ((False, 1),)))
        self.refuses((3, ((0, True),)))
        self.refuses((3, ((0, 1.0),)))

    def test_refuses_more_and_fewer_items(self):
        self.refuses((3,))
        self.refuses((3, (), ()))
        self.refuses([3, ()])
        self.refuses((3, ((0,),)))
        self.refuses((3, ((0, 1, 2),)))
        self.refuses((3, (0, 1)))

    def test_takes_exactly_the_ascending_tuples_of_right_edges(self):
        pairs = list(product(range(-1, 4), repeat=2))
        for edges in [()] + [(pair,) for pair in pairs] + list(product(pairs, repeat=2)):
            right = all(0 <= u < v < 3 for u, v in edges) and list(edges) == sorted(set(edges))
            self.assertIs(is_graph((3, edges)), right, edges)

    def test_refuses_a_wrong_edge_behind_many_right_ones(self):
        edges = PATH_60[1]
        for last in ((58, 59), (57, 58), (59, 58), (59, 59), (59, 60), (0, 59)):
            self.refuses((60, edges + (last,)))
        self.refuses((60, edges[::-1]))


class MadeGraph(unittest.TestCase):
    def test_the_example(self):
        self.assertEqual(made_graph(3, [(2, 1), (0, 1), (1, 2)]), (3, ((0, 1), (1, 2))))

    def test_any_order_either_vertex_first_and_repeated(self):
        for graph in small_graphs():
            n, edges = graph
            turned = [(v, u) for u, v in edges]
            for given in (list(edges), turned, turned[::-1], turned + list(edges), list(edges)[::-1] * 3):
                self.assertEqual(made_graph(n, given), graph)

    def test_every_order_of_some_edges(self):
        for given in permutations([(3, 0), (1, 2), (0, 2), (2, 1)]):
            self.assertEqual(made_graph(4, list(given)), (4, ((0, 2), (0, 3), (1, 2))))

    def test_the_kinds_of_the_parts(self):
        graph = made_graph(3, [(2, 0), (1, 0)])
        self.assertEqual([type(graph), type(graph[1]), type(graph[1][0])], [tuple, tuple, tuple])

    def test_the_list_stays_as_it_was(self):
        given = [(2, 1), (0, 1), (1, 2)]
        made_graph(3, given)
        self.assertEqual(given, [(2, 1), (0, 1), (1, 2)])

    def test_the_least_and_the_greatest_number_of_vertices(self):
        self.assertEqual(made_graph(1, []), (1, ()))
        self.assertEqual(made_graph(60, [(59, 0)]), (60, ((0, 59),)))
        self.assertEqual(made_graph(60, [(v, u) for u, v in all_pairs(60)]), FULL_60)

    def test_refuses_other_numbers_of_vertices(self):
        for n in (0, 61, -1, -60, 10 ** 30):
            for edges in ([], [(0, 1)]):
                with self.assertRaises(BadGraph):
                    made_graph(n, edges)

    def test_refuses_vertices_that_do_not_exist(self):
        for n in (1, 2, 3, 60):
            for pair in ((0, n), (n, 0), (-1, 0), (0, -1), (-1, n), (n + 1, n), (0, 10 ** 30)):
                for edges in ([pair], [pair, pair], [(0, 1), pair]):
                    with self.assertRaises(BadGraph):
                        made_graph(n, edges)

    def test_refuses_equal_vertices(self):
        for n in (1, 2, 60):
            for v in (0, n - 1):
                with self.assertRaises(BadGraph):
                    made_graph(n, [(v, v)])
        with self.assertRaises(BadGraph):
            made_graph(3, [(0, 1), (2, 1), (2, 2)])


class Neighbours(unittest.TestCase):
    def test_all_small_graphs(self):
        for graph in small_graphs():
            n, edges = graph
            for v in range(n):
                right = [u for u in range(n) if (u, v) in edges or (v, u) in edges]
                self.assertEqual(neighbours(graph, v), right)
                for u in range(n):
                    self.assertIs(are_neighbours(graph, u, v), u in right)

    def test_many_vertices(self):
        self.assertEqual(neighbours(FULL_60, 30), [v for v in range(60) if v != 30])
        self.assertEqual(neighbours(PATH_60, 59), [58])
        self.assertIs(are_neighbours(PATH_60, 59, 58), True)
        self.assertIs(are_neighbours(PATH_60, 0, 59), False)
        self.assertIs(are_neighbours(FULL_60, 59, 59), False)

    def test_one_vertex(self):
        self.assertEqual(neighbours((1, ()), 0), [])
        self.assertIs(are_neighbours((1, ()), 0, 0), False)

    def test_the_list_is_new(self):
        graph = (3, ((0, 1), (1, 2)))
        neighbours(graph, 1).append(7)
        self.assertEqual(neighbours(graph, 1), [0, 2])


class Inside(unittest.TestCase):
    def test_all_small_graphs(self):
        for graph in small_graphs():
            for members in sets_of(graph[0]):
                right = sum(1 for u, v in graph[1] if {u, v} <= set(members))
                self.assertEqual(inside(graph, members), right)

    def test_many_vertices(self):
        self.assertEqual(inside(FULL_60, tuple(range(60))), 1770)
        self.assertEqual(inside(FULL_60, ()), 0)
        self.assertEqual(inside(PATH_60, tuple(range(0, 60, 2))), 0)


class Components(unittest.TestCase):
    def test_the_example(self):
        self.assertEqual(components((4, ((0, 2),))), [(0, 2), (1,), (3,)])

    def test_all_graphs_with_at_most_five_vertices(self):
        for graph in small_graphs() + graphs_of_size(5):
            connected = [members for members in sets_of(graph[0]) if joined_by_walks(graph, members)]
            largest = [x for x in connected if not any(set(x) < set(y) for y in connected)]
            self.assertEqual(components(graph), sorted(largest))

    def test_the_kinds(self):
        found = components((3, ((0, 2),)))
        self.assertEqual([type(found), type(found[0])], [list, tuple])

    def test_many_vertices(self):
        self.assertEqual(components((60, ())), [(v,) for v in range(60)])
        self.assertEqual(components(PATH_60), [tuple(range(60))])
        self.assertEqual(components(FULL_60), [tuple(range(60))])
        two_rows = (60, tuple((v, v + 2) for v in range(58)))
        self.assertEqual(components(two_rows), [tuple(range(0, 60, 2)), tuple(range(1, 60, 2))])

    def test_the_list_is_new(self):
        graph = (3, ((0, 1),))
        components(graph).append("more")
        self.assertEqual(components(graph), [(0, 1), (2,)])

    def test_a_component_that_is_reached_upwards_and_downwards(self):
        graph = (6, ((0, 5), (1, 4), (1, 5), (2, 3)))
        self.assertEqual(components(graph), [(0, 1, 4, 5), (2, 3)])

    def test_a_component_of_few_vertices_far_apart(self):
        found = components((60, ((1, 8), (1, 59))))
        self.assertEqual(found, [(0,), (1, 8, 59)] + [(v,) for v in range(2, 59) if v != 8])


class IsConnected(unittest.TestCase):
    def test_all_sets_of_graphs_with_at_most_five_vertices(self):
        for graph in small_graphs() + graphs_of_size(5):
            for members in sets_of(graph[0]):
                self.assertIs(is_connected(graph, members), joined_by_walks(graph, members))

    def test_the_empty_set(self):
        self.assertIs(is_connected((1, ()), ()), False)
        self.assertIs(is_connected(FULL_60, ()), False)

    def test_single_vertices(self):
        for v in (0, 30, 59):
            self.assertIs(is_connected((60, ()), (v,)), True)

    def test_sets_that_only_other_vertices_connect(self):
        self.assertIs(is_connected((3, ((0, 1), (1, 2))), (0, 2)), False)
        self.assertIs(is_connected((3, ((0, 2), (1, 2))), (0, 1)), False)
        self.assertIs(is_connected(PATH_60, tuple(v for v in range(60) if v != 30)), False)
        self.assertIs(is_connected(PATH_60, tuple(range(31))), True)


class Complement(unittest.TestCase):
    def test_all_small_graphs(self):
        for graph in small_graphs():
            n, edges = graph
            self.assertEqual(complement(graph), (n, tuple(pair for pair in all_pairs(n) if pair not in edges)))

    def test_one_and_sixty_vertices(self):
        self.assertEqual(complement((1, ())), (1, ()))
        self.assertEqual(complement((60, ())), FULL_60)
        self.assertEqual(complement(FULL_60), (60, ()))
        self.assertEqual(complement(complement(PATH_60)), PATH_60)
        self.assertIs(is_graph(complement(PATH_60)), True)

    def test_sixty_one_vertices_raise_no_error(self):
        self.assertEqual(complement((61, ())), (61, tuple(all_pairs(61))))


class Induced(unittest.TestCase):
    def test_all_small_graphs(self):
        for graph in small_graphs():
            for members in sets_of(graph[0])[1:]:
                pairs = [(i, j) for i, j in all_pairs(len(members)) if (members[i], members[j]) in graph[1]]
                self.assertEqual(induced(graph, members), (len(members), tuple(pairs)))

    def test_one_and_sixty_vertices(self):
        self.assertEqual(induced((1, ()), (0,)), (1, ()))
        self.assertEqual(induced(FULL_60, (59,)), (1, ()))
        self.assertEqual(induced(PATH_60, tuple(range(60))), PATH_60)
        self.assertEqual(induced(PATH_60, (0, 30, 31, 58, 59)), (5, ((1, 2), (3, 4))))

    def test_sixty_one_vertices_raise_no_error(self):
        self.assertEqual(induced((61, ((59, 60),)), tuple(range(61))), (61, ((59, 60),)))
        self.assertEqual(induced((61, ((59, 60),)), (59, 60)), (2, ((0, 1),)))


class Renamed(unittest.TestCase):
    def test_all_small_graphs(self):
        for graph in small_graphs():
            n, edges = graph
            for order in permutations(range(n)):
                found = renamed(graph, order)
                self.assertIs(is_graph(found), True)
                self.assertEqual((found[0], len(found[1])), (n, len(edges)))
                for u, v in edges:
                    self.assertIn((min(order[u], order[v]), max(order[u], order[v])), found[1])

    def test_each_vertex_gets_the_number_at_its_place(self):
        self.assertEqual(renamed((4, ((0, 1),)), (1, 2, 3, 0)), (4, ((1, 2),)))

    def test_one_and_sixty_vertices(self):
        self.assertEqual(renamed((1, ()), (0,)), (1, ()))
        self.assertEqual(renamed(PATH_60, tuple(range(60))), PATH_60)
        self.assertEqual(renamed(PATH_60, tuple(range(59, -1, -1))), PATH_60)
        self.assertEqual(renamed((60, ((0, 59),)), tuple(range(1, 60)) + (0,)), (60, ((0, 1),)))

    def test_sixty_one_vertices_raise_no_error(self):
        self.assertEqual(renamed((61, ((0, 60),)), tuple(range(1, 61)) + (0,)), (61, ((0, 1),)))


class Beside(unittest.TestCase):
    def test_small_graphs(self):
        for first in small_graphs():
            for second in graphs_of_size(1) + graphs_of_size(3):
                n = first[0]
                moved = tuple((u + n, v + n) for u, v in second[1])
                found = beside(first, second)
                self.assertEqual(found, (n + second[0], first[1] + moved))
                self.assertIs(is_graph(found), True)

    def test_sixty_vertices_together(self):
        self.assertEqual(beside((1, ()), (59, ((0, 58),))), (60, ((1, 59),)))
        self.assertEqual(beside((59, ((0, 58),)), (1, ())), (60, ((0, 58),)))
        self.assertEqual(beside((30, ()), (30, ())), (60, ()))

    def test_refuses_more_than_sixty_vertices(self):
        for first, second in ((1, 60), (60, 1), (30, 31), (31, 30), (60, 60)):
            with self.assertRaises(BadGraph):
                beside((first, ()), (second, ()))
