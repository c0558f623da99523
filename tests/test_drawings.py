import unittest
from itertools import permutations, product

from helpers import all_pairs, graphs_of_size, joined_by_walks, sets_of, small_graphs
from trellis.drawings import blocks, cut_vertices, dual_graph, faces, mirrored
from trellis.errors import BadGraph
from trellis.families import cycle_graph, full_graph, grid_graph, path_graph, two_sided
from trellis.graphs import beside, is_graph, made_graph, neighbours

# A cube: its faces are the sides, each vertex has three neighbours.
CUBE = made_graph(8, [(i, (i + 1) % 4) for i in range(4)] + [(i + 4, (i + 1) % 4 + 4) for i in range(4)]
                  + [(i, i + 4) for i in range(4)])
CUBE_DRAWN = ((1, 3, 4), (2, 0, 5), (3, 1, 6), (0, 2, 7), (7, 5, 0), (4, 6, 1), (5, 7, 2), (6, 4, 3))
# Two triangles, a square and an edge at the vertex 0, and further parts beside.
FLOWER = made_graph(
    12, [(0, 1), (0, 2), (1, 2), (0, 3), (0, 4), (3, 4), (0, 5), (5, 6), (6, 7), (0, 7), (0, 8), (9, 11)]
)


def rotations(graph):
    """All rotations of a graph."""
    return product(*[list(permutations(neighbours(graph, v))) for v in range(graph[0])])


def plain(graph):
    return tuple(tuple(neighbours(graph, v)) for v in range(graph[0]))


def right_faces(graph, rotation):
    left = set(graph[1]) | {(v, u) for u, v in graph[1]}
    found = []
    while left:
        walk = [min(left)]
        while True:
            u, v = walk[-1]
            at = rotation[v].index(u) + 1
            after = (v, rotation[v][at] if at < len(rotation[v]) else rotation[v][0])
            if after == walk[0]:
                break
            walk.append(after)
        left -= set(walk)
        found.append(tuple(walk))
    return found


def right_blocks(graph):
    def block(members):
        smaller = [tuple(u for u in members if u != v) for v in members]
        return joined_by_walks(graph, members) and (
            len(members) == 2 or all(joined_by_walks(graph, other) for other in smaller)
        )
    found = [set(members) for members in sets_of(graph[0]) if len(members) > 1 and block(members)]
    return sorted(tuple(sorted(a)) for a in found if not any(a < b for b in found))


def many_components(graph, members):
    left, many = set(members), 0
    for v in members:
        if v in left:
            many += 1
            left -= {u for u in left if any(
                {u, v} <= set(other) and joined_by_walks(graph, other) for other in sets_of(graph[0])
                if set(other) <= set(members)
            )}
    return many


class Faces(unittest.TestCase):
    def test_the_example(self):
        self.assertEqual(faces(path_graph(3), ((1,), (0, 2), (1,))), [((0, 1), (1, 2), (2, 1), (1, 0))])

    def test_all_rotations_of_small_graphs(self):
        for graph in small_graphs():
            for rotation in rotations(graph):
                found = faces(graph, rotation)
                self.assertEqual(found, right_faces(graph, rotation), rotation)
                self.assertEqual(found, sorted(found))
                self.assertTrue(all(face[0] == min(face) for face in found))
                self.assertEqual(sum(len(face) for face in found), 2 * len(graph[1]))

    def test_the_direction(self):
        rotation = ((1, 2, 3), (0, 2, 3), (0, 1, 3), (0, 1, 2))
        found = faces(full_graph(4), rotation)
        self.assertEqual(found[0][:3], ((0, 1), (1, 2), (2, 3)))

    def test_graphs_without_an_edge(self):
        for n in (1, 2, 60):
            self.assertEqual(faces((n, ()), ((),) * n), [])

    def test_isolated_vertices(self):
        graph = (4, ((1, 3),))
        self.assertEqual(faces(graph, ((), (3,), (), (1,))), [((1, 3), (3, 1))])

    def test_graphs_that_are_not_connected(self):
        graph = beside(full_graph(3), path_graph(2))
        self.assertEqual(faces(graph, ((1, 2), (0, 2), (0, 1), (4,), (3,))), [
            ((0, 1), (1, 2), (2, 0)), ((0, 2), (2, 1), (1, 0)), ((3, 4), (4, 3)),
        ])

    def test_trees_have_one_face(self):
        for graph in (path_graph(60), two_sided(1, 59), (5, ((0, 2), (1, 2), (2, 4), (3, 4)))):
            found = faces(graph, plain(graph))
            self.assertEqual(len(found), 1)
            self.assertEqual(sorted(found[0]), sorted(list(graph[1]) + [(v, u) for u, v in graph[1]]))

    def test_the_kinds(self):
        found = faces(full_graph(3), plain(full_graph(3)))
        self.assertEqual([type(found), type(found[0]), type(found[0][0])], [list, tuple, tuple])

    def test_the_list_is_new(self):
        graph = full_graph(3)
        faces(graph, plain(graph)).clear()
        self.assertEqual(len(faces(graph, plain(graph))), 2)

    def test_many_arrows(self):
        graph = full_graph(60)
        self.assertEqual(faces(graph, plain(graph)), right_faces(graph, plain(graph)))


class Mirrored(unittest.TestCase):
    def test_each_item_is_reversed(self):
        self.assertEqual(mirrored(((1, 2, 3), (0,), (), (3, 0))), ((3, 2, 1), (0,), (), (0, 3)))
        self.assertEqual(mirrored(((),)), ((),))
        for graph in small_graphs():
            for rotation in rotations(graph):
                found = mirrored(rotation)
                self.assertEqual(found, tuple(tuple(reversed(item)) for item in rotation))
                self.assertEqual(mirrored(found), rotation)
                turned = sorted(sorted((v, u) for u, v in face) for face in faces(graph, found))
                self.assertEqual(turned, sorted(sorted(face) for face in faces(graph, rotation)))


class DualGraph(unittest.TestCase):
    def right(self, graph, rotation):
        found = right_faces(graph, rotation)
        pairs = {
            tuple(sorted((i, j))) for u, v in graph[1] for i, face in enumerate(found) for j, other in enumerate(found)
            if i != j and (u, v) in face and (v, u) in other
        }
        return len(found), tuple(sorted(pairs))

    def test_all_rotations_of_small_graphs(self):
        for graph in small_graphs():
            for rotation in rotations(graph):
                if graph[1]:
                    found = dual_graph(graph, rotation)
                    self.assertEqual(found, self.right(graph, rotation))
                    self.assertIs(is_graph(found), True)

    def test_known_drawings(self):
        self.assertEqual(dual_graph(path_graph(3), ((1,), (0, 2), (1,))), (1, ()))
        self.assertEqual(dual_graph(cycle_graph(60), plain(cycle_graph(60))), (2, ((0, 1),)))
        self.assertEqual(len(faces(CUBE, CUBE_DRAWN)), 6)
        octahedron = dual_graph(CUBE, CUBE_DRAWN)
        self.assertEqual(octahedron[0], 6)
        self.assertEqual([len(neighbours(octahedron, v)) for v in range(6)], [4] * 6)

    def test_parts_side_by_side(self):
        graph = beside(full_graph(3), full_graph(3))
        self.assertEqual(dual_graph(graph, plain(graph)), (4, ((0, 1), (2, 3))))

    def test_no_face(self):
        for n in (1, 2, 60):
            with self.assertRaises(BadGraph):
                dual_graph((n, ()), ((),) * n)

    def test_sixty_faces_and_more(self):
        pairs = made_graph(60, [(v, v + 1) for v in range(0, 60, 2)])
        self.assertEqual(dual_graph(pairs, plain(pairs)), (30, ()))
        wheels = made_graph(60, [(v, w) for start in range(0, 60, 4) for v, w in self.full_four(start)])
        drawn = tuple(item for start in range(0, 60, 4) for item in self.drawn_four(start))
        self.assertEqual(len(faces(wheels, drawn)), 60)
        found = dual_graph(wheels, drawn)
        self.assertEqual((found[0], len(found[1])), (60, 90))
        fan = self.fan(32)
        self.assertEqual(len(faces(*fan)), 60)
        self.assertEqual(dual_graph(*fan)[0], 60)
        fan = self.fan(33)
        self.assertEqual(len(faces(*fan)), 62)
        with self.assertRaises(BadGraph):
            dual_graph(*fan)

    def full_four(self, start):
        return [(start + u, start + v) for u, v in all_pairs(4)]

    def drawn_four(self, start):
        return [tuple(start + v for v in item) for item in ((1, 2, 3), (0, 3, 2), (0, 1, 3), (0, 2, 1))]

    def fan(self, n):
        """Two neighbours that are neighbours of all vertices of a path, drawn without crossings: 2 * n - 4 faces."""
        last = n - 1
        spokes = [(c, v) for c in (0, 1) for v in range(2, n)]
        graph = made_graph(n, [(0, 1)] + spokes + [(v, v + 1) for v in range(2, last)])
        items = [(*range(2, n), 1), (*range(last, 1, -1), 0)]
        for v in range(2, n):
            before = [v - 1] if v > 2 else []
            after = [v + 1] if v < last else []
            items.append((0, *before, 1, *after))
        return graph, tuple(items)


class Blocks(unittest.TestCase):
    def test_the_example(self):
        self.assertEqual(blocks((4, ((0, 1), (0, 2), (1, 2), (2, 3)))), [(0, 1, 2), (2, 3)])

    def test_all_graphs_with_at_most_five_vertices(self):
        for graph in small_graphs() + graphs_of_size(5)[::3]:
            found = blocks(graph)
            self.assertEqual(found, right_blocks(graph), graph)
            self.assertIs(type(found), list)

    def test_few_vertices(self):
        self.assertEqual(blocks((1, ())), [])
        self.assertEqual(blocks((2, ())), [])
        self.assertEqual(blocks((2, ((0, 1),))), [(0, 1)])

    def test_several_blocks_at_one_vertex(self):
        self.assertEqual(blocks(FLOWER), [(0, 1, 2), (0, 3, 4), (0, 5, 6, 7), (0, 8), (9, 11)])

    def test_many_vertices(self):
        self.assertEqual(blocks(path_graph(60)), [(v, v + 1) for v in range(59)])
        self.assertEqual(blocks(two_sided(1, 59)), [(0, v) for v in range(1, 60)])
        for graph in (cycle_graph(60), full_graph(60), grid_graph(6, 10)):
            self.assertEqual(blocks(graph), [tuple(range(60))])
        self.assertEqual(blocks((60, ())), [])
        self.assertEqual(blocks(beside(full_graph(30), path_graph(3))), [tuple(range(30)), (30, 31), (31, 32)])

    def test_a_chain_of_triangles(self):
        graph = made_graph(59, [(v, v + 1) for v in range(58)] + [(v, v + 2) for v in range(0, 57, 2)])
        self.assertEqual(blocks(graph), [(v, v + 1, v + 2) for v in range(0, 57, 2)])

    def test_the_list_is_new(self):
        blocks(FLOWER).clear()
        self.assertEqual(len(blocks(FLOWER)), 5)


class CutVertices(unittest.TestCase):
    def test_all_small_graphs(self):
        for graph in small_graphs() + graphs_of_size(5)[::31]:
            everything = tuple(range(graph[0]))
            right = [
                v for v in everything
                if many_components(graph, tuple(u for u in everything if u != v)) > many_components(graph, everything)
            ]
            self.assertEqual(cut_vertices(graph), right, graph)
            self.assertIs(type(cut_vertices(graph)), list)

    def test_known_graphs(self):
        self.assertEqual(cut_vertices((1, ())), [])
        self.assertEqual(cut_vertices((2, ((0, 1),))), [])
        self.assertEqual(cut_vertices(FLOWER), [0])
        self.assertEqual(cut_vertices(path_graph(60)), list(range(1, 59)))
        self.assertEqual(cut_vertices(cycle_graph(60)), [])
        self.assertEqual(cut_vertices((60, ())), [])
        self.assertEqual(cut_vertices(two_sided(59, 1)), [59])
        self.assertEqual(cut_vertices(beside(path_graph(3), path_graph(3))), [1, 4])
