import unittest
from itertools import product

import helper
from helper import SQUARE
from perfectgraphs.multigraphs import edge_colouring, greatest_degree, is_edge_colouring, is_multigraph, line_graph

MANY = helper.small_multigraphs() + helper.greater_multigraphs(80)


def is_told(value):
    left, right, edges = value
    return (left in range(10) and right in range(10) and len(edges) < 10 and list(edges) == sorted(edges)
            and all(len(edge) == 2 and edge[0] in range(left) and edge[1] in range(right) for edge in edges))


def is_colouring_told(multigraph, value):
    most, near = helper.degree_of(multigraph), helper.line_graph_of(multigraph)[1]
    return (len(value) == len(multigraph[2]) and all(colour in range(most) for colour in value)
            and all(value[one] != value[two] for one, two in near))


class Session(unittest.TestCase):
    def test_answers(self):
        self.assertEqual(
            [is_multigraph(SQUARE), is_multigraph((1, 1, ((0, 0), (0, 0)))), is_multigraph((1, 2, ((0, 1), (0, 0)))),
             greatest_degree(SQUARE), line_graph(SQUARE), is_edge_colouring(SQUARE, (0, 1, 1, 0))],
            [True, True, False, 2, (4, ((0, 1), (0, 2), (1, 3), (2, 3))), True])


class Multigraphs(unittest.TestCase):
    def test_right_ones(self):
        for multigraph in MANY:
            self.assertIs(is_multigraph(multigraph), True, multigraph)
        for left, right in product(range(10), range(10)):
            self.assertIs(is_multigraph((left, right, ())), True)
            last = ((left - 1, right - 1),)
            self.assertIs(is_multigraph((left, right, last)), left > 0 and right > 0)
            self.assertIs(is_multigraph((left, right, last * 9)), left > 0 and right > 0)

    def test_all_of_few_edges(self):
        ends = list(product(range(-1, 3), repeat=2))
        for left, right in product(range(3), range(3)):
            for size in range(3):
                for edges in product(ends, repeat=size):
                    value = (left, right, edges)
                    self.assertIs(is_multigraph(value), helper.is_right(is_told, value), value)

    def test_ten_vertices_and_ten_edges(self):
        for value in ((10, 1, ()), (1, 10, ()), (10, 10, ((9, 9),)), (1, 1, ((0, 0),) * 10), (9, 9, ((8, 8),) * 11)):
            self.assertIs(is_multigraph(value), False, value)

    def test_bent_values(self):
        for right in (SQUARE, (3, 2, ((0, 0), (0, 0), (1, 1), (2, 0))), (1, 9, ((0, 8),) * 9), (0, 0, ())):
            for value in helper.bent(right):
                self.assertIs(is_multigraph(value), helper.is_right(is_told, value), value)

    def test_values_of_any_kind(self):
        for value in helper.NO_MULTIGRAPHS + helper.NO_GRAPHS:
            self.assertIs(is_multigraph(value), False, repr(value))
        self.assertIs(is_multigraph(value=SQUARE), True)


class Degrees(unittest.TestCase):
    def test_beside_a_look_at_each_vertex(self):
        degrees = set()
        for multigraph in MANY:
            told = helper.degree_of(multigraph)
            self.assertEqual(greatest_degree(multigraph), told, multigraph)
            self.assertIs(type(greatest_degree(multigraph=multigraph)), int)
            degrees.add(told)
        self.assertEqual(degrees, set(range(10)))


class LineGraphs(unittest.TestCase):
    def test_beside_a_look_pair_by_pair(self):
        for multigraph in MANY:
            edges = multigraph[2]
            near = [(one, two) for one, two in helper.all_pairs(len(edges))
                    if edges[one][0] == edges[two][0] or edges[one][1] == edges[two][1]]
            self.assertEqual(line_graph(multigraph), (len(edges), tuple(near)), multigraph)
            self.assertEqual(line_graph(multigraph=multigraph), helper.line_graph_of(multigraph))

    def test_they_are_perfect_with_the_greatest_degree_as_chromatic_number(self):
        for multigraph in MANY:
            graph = line_graph(multigraph)
            self.assertEqual(helper.odd_rounds_of(graph), [], multigraph)
            degree = greatest_degree(multigraph)
            self.assertTrue(helper.is_colourable(graph, degree))
            self.assertFalse(degree and helper.is_colourable(graph, degree - 1))
            self.assertEqual(helper.greatest_clique_of(graph), degree)


class EdgeColourings(unittest.TestCase):
    def test_any_has_just_so_many_colours(self):
        for multigraph in MANY:
            told = edge_colouring(multigraph)
            self.assertTrue(helper.is_right(lambda value: is_colouring_told(multigraph, value), told), multigraph)
            self.assertEqual(sorted(set(told)), list(range(helper.degree_of(multigraph))))
            self.assertIs(is_edge_colouring(multigraph, told), True)
            self.assertEqual(edge_colouring(multigraph=multigraph), told)

    def test_all_of_few_edges(self):
        for multigraph in helper.small_multigraphs():
            for value in product(range(-1, 4), repeat=len(multigraph[2])):
                told = helper.is_right(lambda row: is_colouring_told(multigraph, row), value)
                self.assertIs(is_edge_colouring(multigraph, value), told, (multigraph, value))

    def test_bent_values(self):
        for multigraph in MANY[::7] + [SQUARE]:
            right = edge_colouring(multigraph)
            for value in helper.bent(right) + helper.bent(right[::-1]):
                told = helper.is_right(lambda row: is_colouring_told(multigraph, row), value)
                self.assertIs(is_edge_colouring(multigraph, value), told, (multigraph, value))

    def test_values_of_any_kind(self):
        none = [(), (0,), (False, 1, 1, 0), (0, True, True, 0), (0, 1, 1, None), (0, 1, 1, "0"), (helper.Odd(),) * 4]
        for value in helper.ANY_VALUES + none:
            self.assertIs(is_edge_colouring(SQUARE, value), False, repr(value))
            self.assertIs(is_edge_colouring(value=value, multigraph=(3, 3, ())), helper.is_among(value, [()]))


if __name__ == "__main__":
    unittest.main()
