import unittest

import helper
from perfectgraphs.errors import InvalidGraph
from perfectgraphs.graphs import complement, is_graph
from perfectgraphs.holes import antiholes, holes, is_antihole, is_berge, is_hole, odd_one
from perfectgraphs.perfection import is_minimal, is_perfect, lacking, minimal_lots, thin
from perfectgraphs.texts import graph6, print_graph

OF_A_GRAPH = [
    complement, print_graph, graph6, holes, antiholes, odd_one, is_berge, is_perfect, lacking, thin, is_minimal,
    minimal_lots,
]
OF_A_GRAPH_AND_A_VALUE = [is_hole, is_antihole]
SOME_GRAPHS = helper.small_graphs() + helper.extreme_graphs() + helper.even_rounds() + helper.odd_rounds_and_kin()


class IsGraph(unittest.TestCase):
    def test_graphs(self):
        for graph in SOME_GRAPHS:
            self.assertIs(is_graph(graph), True, graph)
            self.assertIs(is_graph(value=graph), True, graph)

    def test_what_is_none(self):
        for value in helper.NO_GRAPHS:
            self.assertIs(is_graph(value), False, repr(value))

    def test_each_wrong_order_of_edges(self):
        for graph in helper.all_graphs(4):
            many, edges = graph
            for at in range(len(edges) - 1):
                turned = edges[:at] + (edges[at + 1], edges[at]) + edges[at + 2:]
                self.assertIs(is_graph((many, turned)), False)
            for at in range(len(edges)):
                self.assertIs(is_graph((many, edges[:at + 1] + edges[at:])), False)
                self.assertIs(is_graph((many, edges[:at] + (edges[at][::-1],) + edges[at + 1:])), False)


class Complement(unittest.TestCase):
    def test_just_the_other_pairs(self):
        for graph in SOME_GRAPHS:
            self.assertEqual(complement(graph), helper.opposite(graph))
            self.assertEqual(complement(graph=complement(graph)), graph)
        self.assertEqual(complement(helper.FIVE), (5, ((0, 2), (0, 3), (1, 3), (1, 4), (2, 4))))


class Refused(unittest.TestCase):
    def check_refused(self, value, call):
        with self.assertRaises(InvalidGraph) as caught:
            call()
        self.assertIs(caught.exception.given, value)

    def test_each_function_refuses_what_is_no_graph(self):
        for function in OF_A_GRAPH:
            for value in helper.NO_GRAPHS:
                self.check_refused(value, lambda: function(value))
                self.check_refused(value, lambda: function(graph=value))

    def test_the_graph_is_checked_ahead_of_the_value(self):
        for function in OF_A_GRAPH_AND_A_VALUE:
            for value in helper.NO_GRAPHS:
                for other in ((0, 1, 2, 3), None, [], value):
                    self.check_refused(value, lambda: function(value, other))
                    self.check_refused(value, lambda: function(value=other, graph=value))


class CalledAgain(unittest.TestCase):
    def test_equal_calls_are_answered_alike_in_tuples(self):
        for graph in helper.odd_rounds_and_kin()[:40]:
            for function in OF_A_GRAPH:
                self.assertEqual(function(graph), function((graph[0], tuple(list(graph[1])))))
            for function in (holes, antiholes, minimal_lots):
                self.assertIs(type(function(graph)), tuple)
                self.assertTrue(all(type(row) is tuple for row in function(graph)))


if __name__ == "__main__":
    unittest.main()
