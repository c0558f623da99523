import unittest
from itertools import combinations, permutations, product

from helpers import Touchy, all_pairs, graphs_of_size, joined_by_walks, odd_values, sets_of, small_graphs
from trellis.bags import (
    from_order, hits, is_decomposition, least_hitting, made_small, meets, order_width, touch, width_of,
)
from trellis.families import cycle_graph, full_graph, grid_graph, path_graph
from trellis.graphs import made_graph

FULL_60 = (60, tuple(all_pairs(60)))
PATH_4 = (4, ((0, 1), (1, 2), (2, 3)))
PATH_BAGS = (((0, 1), (1, 2), (2, 3)), ((0, 1), (1, 2)))
STAR = (4, ((0, 1), (0, 2), (0, 3)))


def is_tree(many, links):
    return len(links) == many - 1 and joined_by_walks((many, links), tuple(range(many)))


def right_decomposition(graph, bags, links):
    """Whether bags, sets that are not empty, and links, ascending pairs of indexes, are a decomposition."""
    if not bags or not is_tree(len(bags), links):
        return False
    if not all(any({u, v} <= set(bag) for bag in bags) for u, v in graph[1]):
        return False
    homes = [tuple(at for at, bag in enumerate(bags) if v in bag) for v in range(graph[0])]
    return all(joined_by_walks((len(bags), links), home) for home in homes)


def right_from_order(graph, order):
    """The decomposition of an order, step by step as the document tells it."""
    near = {v: {u for u in range(graph[0]) if (u, v) in graph[1] or (v, u) in graph[1]} for v in range(graph[0])}
    bags, links = [], []
    for at, v in enumerate(order):
        behind = [u for u in order[at + 1:] if u in near[v]]
        bags.append(tuple(sorted([v] + behind)))
        for a, b in permutations(behind, 2):
            near[a].add(b)
        if behind:
            links.append((at, order.index(behind[0])))
        elif at + 1 < len(order):
            links.append((at, at + 1))
    return tuple(bags), tuple(sorted(links))


class IsDecomposition(unittest.TestCase):
    def takes(self, graph, value):
        self.assertIs(is_decomposition(graph, value), True, value)

    def refuses(self, graph, value):
        self.assertIs(is_decomposition(graph, value), False)

    def test_all_pairs_and_triples_of_bags(self):
        for graph in small_graphs():
            bags_of = sets_of(graph[0])[1:]
            if graph[0] < 4:
                for many in (1, 2, 3):
                    for bags in product(bags_of, repeat=many):
                        for count in range(many + 1):
                            for links in combinations(all_pairs(many), count):
                                right = right_decomposition(graph, bags, links)
                                self.assertIs(is_decomposition(graph, (bags, links)), right, (graph, bags, links))
            else:
                for bags in product(bags_of, repeat=2):
                    right = right_decomposition(graph, bags, ((0, 1),))
                    self.assertIs(is_decomposition(graph, (bags, ((0, 1),))), right, (graph, bags))

    def test_single_vertices(self):
        self.takes((1, ()), (((0,),), ()))
        self.takes((1, ()), (((0,), (0,)), ((0, 1),)))
        self.takes((2, ()), (((0,), (1,)), ((0, 1),)))
        self.refuses((2, ()), (((0,), (1,)), ()))
        self.refuses((1, ()), ((), ()))
        self.refuses((1, ()), (((),), ()))
        self.refuses((1, ()), (((0,), ()), ((0, 1),)))

    def test_bags_contained_in_other_bags(self):
        self.takes(PATH_4, (((0, 1), (0,), (1, 2), (2, 3), (1, 2, 3)), ((0, 1), (0, 4), (2, 4), (3, 4))))

    def test_more_than_sixty_bags(self):
        links = tuple((at, at + 1) for at in range(99))
        self.takes((2, ((0, 1),)), (((0, 1),) * 100, links))
        self.refuses((2, ((0, 1),)), (((0, 1),) * 100, links[:-1]))
        self.refuses((2, ((0, 1),)), (((0, 1),) * 99 + ((0,),) + ((1,),), links + ((99, 100),)))

    def test_vertices_and_edges_in_no_bag(self):
        self.takes(PATH_4, PATH_BAGS)
        self.refuses(PATH_4, (((0, 1), (1, 2)), ((0, 1),)))
        self.refuses(PATH_4, (((0, 1), (1, 2), (3,)), ((0, 1), (1, 2))))
        self.refuses((5, PATH_4[1]), PATH_BAGS)
        self.refuses((4, PATH_4[1] + ((0, 3),))[:1] + (((0, 1), (0, 3), (1, 2), (2, 3)),), PATH_BAGS)

    def test_bags_of_a_vertex_that_are_not_linked(self):
        self.refuses(PATH_4, (((0, 1), (2, 3), (1, 2)), ((0, 1), (1, 2))))
        self.takes(PATH_4, (((0, 1), (2, 3), (1, 2)), ((0, 2), (1, 2))))
        self.refuses(PATH_4, (((0, 1), (1, 2), (0, 2, 3)), ((0, 1), (1, 2))))

    def test_links_that_form_no_tree(self):
        bags = ((0, 1, 2, 3),) * 4
        tree = ((0, 1), (0, 2), (2, 3))
        self.takes(PATH_4, (bags, tree))
        for links in ((), tree[:2], tree + ((1, 3),), ((0, 1), (0, 2), (1, 2)), ((0, 1), (0, 1), (2, 3)),
                      ((0, 1), (2, 3)), ((0, 2), (0, 1), (2, 3)), ((0, 1), (0, 2), (3, 2)), ((1, 0), (0, 2), (2, 3)),
                      ((0, 1), (0, 2), (3, 3)), ((0, 1), (0, 2), (2, 4)), ((-1, 0), (0, 1), (0, 2)),
                      ((0, 1), (0, 2), (2,)), ((0, 1), (0, 2), (2, 3, 3)), ((0, 1), (0, 2), 3)):
            self.refuses(PATH_4, (bags, links))

    def test_bags_that_are_no_sets(self):
        for bag in ((1, 0), (0, 0, 1), (0, 1, 1), (0, 4), (-1, 0, 1), (0, True), (False, 1), (0, 1.0), [0, 1], 0, "01",
                    {0: 1, 1: 1}, None, (), Touchy(), (0, (1,)), (0, None), (0, Touchy())):
            self.refuses(PATH_4, ((bag,) + PATH_BAGS[0][1:], PATH_BAGS[1]))

    def test_lists_in_place_of_tuples(self):
        bags, links = PATH_BAGS
        self.refuses(PATH_4, [bags, links])
        self.refuses(PATH_4, (list(bags), links))
        self.refuses(PATH_4, (bags, list(links)))
        self.refuses(PATH_4, (bags, ([0, 1], (1, 2))))
        self.refuses(PATH_4, (([0, 1], *bags[1:]), links))

    def test_items_too_many_and_too_few(self):
        self.refuses(PATH_4, PATH_BAGS[:1])
        self.refuses(PATH_4, PATH_BAGS + ((),))
        self.refuses(PATH_4, ())

    def test_other_values(self):
        bags, links = PATH_BAGS
        for value in odd_values() + [(), 0, 1, (0, 1)]:
            self.refuses(PATH_4, value)
            self.refuses(PATH_4, (value, links))
            self.refuses(PATH_4, (bags, value))
            self.refuses(PATH_4, (bags, (links[0], value)))
            self.refuses(PATH_4, (bags, (links[0], (value, 2) if type(value) is not int or value > 1 else ())))
            right = type(value) is tuple and value in ((0, 1), (0, 1, 2))
            self.assertIs(is_decomposition(PATH_4, ((value, *bags[1:]), links)), right)
        self.refuses(PATH_4, (bags, ((False, True), (1, 2))))
        self.refuses(PATH_4, (bags, ((0, True), (1, 2))))
        self.refuses(PATH_4, (bags, ((0, 1), (True, 2))))

    def test_many_vertices(self):
        self.takes(FULL_60, ((tuple(range(60)),), ()))
        self.refuses(FULL_60, ((tuple(range(59)), tuple(range(1, 60))), ((0, 1),)))
        bags = tuple((v, v + 1) for v in range(59))
        self.takes(path_graph(60), (bags, tuple((v, v + 1) for v in range(58))))
        self.refuses(cycle_graph(60), (bags, tuple((v, v + 1) for v in range(58))))


class Width(unittest.TestCase):
    def test_the_largest_bag_minus_one(self):
        self.assertEqual(width_of((((0,),), ())), 0)
        self.assertEqual(width_of(PATH_BAGS), 1)
        self.assertEqual(width_of((((0,), (0, 1, 2), (1, 2)), ((0, 1), (1, 2)))), 2)
        self.assertEqual(width_of(((tuple(range(60)),), ())), 59)


class FromOrder(unittest.TestCase):
    def right(self, graph, order):
        found = from_order(graph, order)
        self.assertEqual(found, right_from_order(graph, order), (graph, order))
        self.assertIs(is_decomposition(graph, found), True)
        self.assertEqual(order_width(graph, order), max(len(bag) for bag in found[0]) - 1)

    def test_the_example(self):
        self.assertEqual(from_order((3, ((0, 1), (1, 2))), (0, 1, 2)), (((0, 1), (1, 2), (2,)), ((0, 1), (1, 2))))

    def test_all_orders_of_small_graphs(self):
        for graph in small_graphs():
            for order in permutations(range(graph[0])):
                self.right(graph, order)

    def test_some_orders_of_larger_graphs(self):
        others = [cycle_graph(7), grid_graph(2, 4), made_graph(7, [(0, 5), (5, 3), (1, 6)])]
        for graph in graphs_of_size(5)[::37] + others:
            n = graph[0]
            for step in (1, 2, 3, n - 1):
                for start in range(n):
                    order = sorted(range(n), key=lambda v: ((v * step + start) % n, v))
                    self.right(graph, tuple(order))

    def test_edges_that_were_added_count(self):
        self.assertEqual(
            from_order(STAR, (0, 1, 2, 3)),
            (((0, 1, 2, 3), (1, 2, 3), (2, 3), (3,)), ((0, 1), (1, 2), (2, 3))),
        )
        self.assertEqual(order_width(STAR, (0, 1, 2, 3)), 3)
        self.assertEqual(order_width(STAR, (1, 2, 3, 0)), 1)

    def test_the_first_neighbour_in_the_order_is_linked(self):
        graph = (4, ((0, 1), (0, 3)))
        self.assertEqual(from_order(graph, (0, 3, 2, 1))[1], ((0, 1), (1, 3), (2, 3)))

    def test_graphs_that_are_not_connected(self):
        self.assertEqual(from_order((3, ()), (2, 0, 1)), (((2,), (0,), (1,)), ((0, 1), (1, 2))))
        self.assertEqual(from_order((1, ()), (0,)), (((0,),), ()))
        self.assertEqual(order_width((1, ()), (0,)), 0)

    def test_sixty_vertices(self):
        for graph in (FULL_60, path_graph(60), cycle_graph(60), (60, ()), grid_graph(6, 10)):
            self.right(graph, tuple(range(60)))
            self.right(graph, tuple(range(59, -1, -1)))

    def test_the_least_over_all_orders(self):
        for graph, width in ((cycle_graph(5), 2), (full_graph(5), 4), (path_graph(5), 1), ((5, ()), 0), (STAR, 1),
                             (grid_graph(2, 3), 2), (grid_graph(3, 2), 2)):
            self.assertEqual(min(order_width(graph, order) for order in permutations(range(graph[0]))), width)


class MadeSmall(unittest.TestCase):
    def right(self, graph, decomposition):
        bags, links = made_small(graph, decomposition)
        self.assertIs(is_decomposition(graph, (bags, links)), True, (graph, decomposition))
        self.assertTrue(set(bags) <= set(decomposition[0]))
        self.assertEqual(width_of((bags, links)), width_of(decomposition))
        for i, j in links:
            self.assertFalse(set(bags[i]) <= set(bags[j]) or set(bags[j]) <= set(bags[i]), (bags, links))
        self.assertLessEqual(len(bags), graph[0])

    def test_all_orders_of_small_graphs(self):
        for graph in small_graphs():
            for order in permutations(range(graph[0])):
                self.right(graph, from_order(graph, order))

    def test_all_decompositions_with_few_bags(self):
        for graph in small_graphs():
            if graph[0] == 3:
                for bags in product(sets_of(3)[1:], repeat=3):
                    for links in combinations(all_pairs(3), 2):
                        if right_decomposition(graph, bags, links):
                            self.right(graph, (bags, links))

    def test_equal_bags(self):
        graph = (2, ((0, 1),))
        for links in (((0, 1), (1, 2), (2, 3)), ((0, 3), (1, 3), (2, 3)), ((0, 1), (0, 2), (0, 3))):
            self.assertEqual(made_small(graph, (((0, 1),) * 4, links)), (((0, 1),), ()))

    def test_a_chain_of_growing_bags(self):
        bags = tuple(tuple(range(k)) for k in range(1, 61))
        links = tuple((at, at + 1) for at in range(59))
        self.assertEqual(made_small(FULL_60, (bags, links)), ((tuple(range(60)),), ()))
        self.assertEqual(made_small(FULL_60, (bags[::-1], links)), ((tuple(range(60)),), ()))

    def test_small_ones_stay(self):
        self.assertEqual(made_small(PATH_4, PATH_BAGS), PATH_BAGS)
        self.assertEqual(made_small((1, ()), (((0,),), ())), (((0,),), ()))

    def test_sixty_vertices(self):
        for graph in (path_graph(60), cycle_graph(60), (60, ()), grid_graph(6, 10)):
            self.right(graph, from_order(graph, tuple(range(60))))


class Meets(unittest.TestCase):
    def test_common_vertices(self):
        self.assertEqual(meets(PATH_BAGS, (0, 1)), (1,))
        self.assertEqual(meets((((0, 1, 3, 5), (1, 2, 5, 7)), ((0, 1),)), (0, 1)), (1, 5))
        self.assertEqual(meets((((0,), (1,)), ((0, 1),)), (0, 1)), ())
        self.assertEqual(meets((((0, 1), (0, 2), (0, 1, 2)), ((0, 2), (1, 2))), (0, 2)), (0, 1))
        self.assertEqual(meets((((0, 1), (0, 2), (0, 1, 2)), ((0, 2), (1, 2))), (1, 2)), (0, 2))


class Touch(unittest.TestCase):
    def test_all_sets_of_small_graphs(self):
        for graph in small_graphs():
            sets = sets_of(graph[0])
            for first, second in product(sets, repeat=2):
                edge = any((u in first and v in second) or (v in first and u in second) for u, v in graph[1])
                right = edge or bool(set(first) & set(second))
                self.assertIs(touch(graph, first, second), right, (graph, first, second))

    def test_either_way(self):
        graph = path_graph(60)
        self.assertIs(touch(graph, (0, 30), (31, 59)), True)
        self.assertIs(touch(graph, (31, 59), (0, 30)), True)
        self.assertIs(touch(graph, (0, 30), (30,)), True)
        self.assertIs(touch(graph, (0, 29), (31, 59)), False)
        self.assertIs(touch((60, ()), (59,), (59,)), True)


class Hits(unittest.TestCase):
    def test_sets_and_brambles(self):
        bramble = ((0,), (1, 2), (2, 3), (3,))
        for members in sets_of(4):
            self.assertIs(hits(members, bramble), all(set(members) & set(other) for other in bramble), members)

    def test_the_empty_set(self):
        self.assertIs(hits((), ((0,),)), False)
        self.assertIs(hits((), ((0, 1), (1, 2))), False)

    def test_the_greatest_vertex(self):
        self.assertIs(hits((59,), ((58, 59), (0, 59))), True)
        self.assertIs(hits((58,), ((58, 59), (0, 59))), False)


class LeastHitting(unittest.TestCase):
    def right(self, graph, bramble, size):
        found = least_hitting(graph, bramble)
        self.assertIs(type(found), tuple)
        self.assertEqual(list(found), sorted(set(found)))
        self.assertTrue(all(set(found) & set(members) for members in bramble), (bramble, found))
        self.assertEqual(len(found), size, bramble)

    def least_size(self, n, bramble):
        return min(len(x) for x in sets_of(n) if all(set(x) & set(members) for members in bramble))

    def test_the_bramble_of_the_example(self):
        # The document gives 2 here, but no two vertices hit (0,), (1, 2) and (3,), of which no two have a common one.
        self.right(cycle_graph(4), ((0,), (1, 2), (2, 3), (3,)), 3)

    def test_single_sets(self):
        self.right((1, ()), ((0,),), 1)
        self.right(FULL_60, (tuple(range(60)),), 1)
        self.right(FULL_60, ((59,), (58, 59), (59,)), 1)

    def test_brambles_of_small_graphs(self):
        for graph in small_graphs():
            connected = [members for members in sets_of(graph[0]) if joined_by_walks(graph, members)]
            for many in (1, 2, 3):
                for bramble in combinations(connected, many):
                    if all(touch(graph, first, second) for first, second in combinations(bramble, 2)):
                        self.right(graph, bramble, self.least_size(graph[0], bramble))

    def test_sets_of_a_full_graph(self):
        graph = full_graph(6)
        for many in (1, 2, 3, 4, 6):
            bramble = tuple(combinations(range(6), many))
            self.right(graph, bramble, 7 - many)
            self.right(graph, bramble[::-1] + bramble, 7 - many)
        for start in range(40):
            picked = tuple(list(combinations(range(6), 2 + start % 3))[start % 7::1 + start % 5])
            self.right(graph, picked, self.least_size(6, picked))

    def test_crosses_of_a_grid(self):
        rows = [tuple(4 * i + j for j in range(4)) for i in range(4)]
        columns = [tuple(4 * i + j for i in range(4)) for j in range(4)]
        crosses = tuple(tuple(sorted(set(row) | set(column))) for row in rows for column in columns)
        self.right(grid_graph(4, 4), crosses, 4)

    def test_sixty_single_vertices(self):
        self.right(FULL_60, tuple((v,) for v in range(60)), 60)
