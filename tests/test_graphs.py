import unittest
from itertools import product

import helper
from perfectgraphs.errors import InvalidGraph
from perfectgraphs.graphs import are_adjacent, complement, induced, is_graph, is_lot
from perfectgraphs.holes import antiholes, holes, is_antihole, is_berge, is_hole, odd_one
from perfectgraphs.perfection import is_minimal, is_perfect, lacking, minimal_lots, thin
from perfectgraphs.texts import graph6, print_graph

OF_A_GRAPH = [
    complement, print_graph, graph6, holes, antiholes, odd_one, is_berge, is_perfect, lacking, thin, is_minimal,
    minimal_lots,
]
OF_A_GRAPH_AND_A_VALUE = [is_hole, is_antihole]
SOME_GRAPHS = helper.small_graphs() + helper.extreme_graphs() + helper.even_rounds() + helper.odd_rounds_and_kin()


class IsGraph(unittest.TestCase):
    def test_graphs(self):
        for graph in SOME_GRAPHS:
            self.assertIs(is_graph(graph), True, graph)
            self.assertIs(is_graph(value=graph), True, graph)

    def test_what_is_none(self):
        for value in helper.NO_GRAPHS:
            self.assertIs(is_graph(value), False, repr(value))

    def test_bent_at_one_place(self):
        right = [graph for many in range(6) for graph in helper.all_graphs(many)]
        told = {repr(graph) for graph in right + [(6, edges) for many, edges in right]}
        for graph in right[:80:3] + [helper.FIVE, helper.HOUSE]:
            for value in helper.bent(graph):
                self.assertIs(is_graph(value), repr(value) in told, repr(value))

    def test_each_wrong_order_of_edges(self):
        for graph in helper.all_graphs(4):
            many, edges = graph
            for at in range(len(edges) - 1):
                turned = edges[:at] + (edges[at + 1], edges[at]) + edges[at + 2:]
                self.assertIs(is_graph((many, turned)), False)
            for at in range(len(edges)):
                self.assertIs(is_graph((many, edges[:at + 1] + edges[at:])), False)
                self.assertIs(is_graph((many, edges[:at] + (edges[at][::-1],) + edges[at + 1:])), False)


class Complement(unittest.TestCase):
    def test_just_the_other_pairs(self):
        for graph in SOME_GRAPHS:
            self.assertEqual(complement(graph), helper.opposite(graph))
            self.assertEqual(complement(graph=complement(graph)), graph)
        self.assertEqual(complement(helper.FIVE), (5, ((0, 2), (0, 3), (1, 3), (1, 4), (2, 4))))


    def test_twice(self):
        for graph in SOME_GRAPHS:
            self.assertEqual(complement(complement(graph)), graph)


class Lots(unittest.TestCase):
    def test_each_tuple_of_numbers(self):
        for many in range(5):
            told = set(helper.lots_of((many, ())))
            for size in range(6):
                for value in product(range(-1, many + 1), repeat=size):
                    self.assertIs(is_lot((many, ()), value), value in told)

    def test_bent_values(self):
        for graph in (helper.HOUSE, (1, ()), (9, ())):
            told = {repr(lot) for lot in helper.lots_of(graph)}
            for lot in helper.lots_of(graph)[::5]:
                self.assertIs(is_lot(graph, lot), True)
                for value in helper.bent(lot):
                    self.assertIs(is_lot(graph, value), repr(value) in told, repr(value))

    def test_values_of_any_kind(self):
        strange = [value for value in helper.ANY_VALUES if value not in ((), (0,)) or isinstance(value, helper.Odd)]
        strange += [[0, 1], (0, True), (False, 1), ("0", "1"), "01", {0, 1}, {0: 1}, range(2), (0, 1, helper.Odd()),
                    (helper.Odd(),), (0, None), (0, [1]), (0, (1,)), (-1, 0), (0, 5), (0, 10 ** 39), (1, 0), (1, 1),
                    tuple(range(2000)), (0,) * 2000]
        for value in strange:
            self.assertIs(is_lot(helper.HOUSE, value), False, repr(value))
            self.assertIs(is_lot(value=value, graph=helper.HOUSE), False)
            self.assertIs(is_lot((0, ()), value), False)
        self.assertIs(is_lot((0, ()), ()), True)


class Adjacent(unittest.TestCase):
    def test_each_two_vertices(self):
        for graph in SOME_GRAPHS[::3] + [helper.HOUSE]:
            for one in range(graph[0]):
                for other in range(graph[0]):
                    told = (one, other) in graph[1] or (other, one) in graph[1]
                    self.assertIs(are_adjacent(graph, one, other), told)
                    self.assertIs(are_adjacent(other=other, one=one, graph=graph), told)


class Induced(unittest.TestCase):
    def test_each_lot_pair_by_pair(self):
        for graph in SOME_GRAPHS[::3] + [helper.HOUSE, helper.FIVE]:
            for lot in helper.lots_of(graph):
                told = induced(graph, lot)
                self.assertEqual(told, helper.induced_by(graph, lot))
                self.assertIs(is_graph(told), True)
                self.assertIs(type(told[1]), tuple)
            self.assertEqual(induced(lot=tuple(range(graph[0])), graph=graph), graph)
            self.assertEqual(induced(graph, ()), (0, ()))


class Session(unittest.TestCase):
    def test_answers(self):
        house = helper.HOUSE
        self.assertEqual(
            [is_graph(house), is_graph((2, ((1, 0),))), is_graph((10, ())), is_lot(house, (1, 2, 4)),
             are_adjacent(house, 4, 1), induced(house, (1, 2, 4))],
            [True, False, False, True, True, (3, ((0, 1), (0, 2), (1, 2)))])


class Refused(unittest.TestCase):
    def check_refused(self, value, call):
        with self.assertRaises(InvalidGraph) as caught:
            call()
        self.assertIs(caught.exception.given, value)

    def test_each_function_refuses_what_is_no_graph(self):
        for function in OF_A_GRAPH:
            for value in helper.NO_GRAPHS:
                self.check_refused(value, lambda: function(value))
                self.check_refused(value, lambda: function(graph=value))

    def test_the_graph_is_checked_ahead_of_the_value(self):
        for function in OF_A_GRAPH_AND_A_VALUE:
            for value in helper.NO_GRAPHS:
                for other in ((0, 1, 2, 3), None, [], value):
                    self.check_refused(value, lambda: function(value, other))
                    self.check_refused(value, lambda: function(value=other, graph=value))


class CalledAgain(unittest.TestCase):
    def test_equal_calls_are_answered_alike_in_tuples(self):
        for graph in helper.odd_rounds_and_kin()[:40]:
            for function in OF_A_GRAPH:
                self.assertEqual(function(graph), function((graph[0], tuple(list(graph[1])))))
            for function in (holes, antiholes, minimal_lots):
                self.assertIs(type(function(graph)), tuple)
                self.assertTrue(all(type(row) is tuple for row in function(graph)))


if __name__ == "__main__":
    unittest.main()
