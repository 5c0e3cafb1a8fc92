import unittest
from itertools import product

import helper
from helper import DOUBLED, FIVE, HOUSE
from perfectgraphs.cliques import chromatic_number, clique_number, stable_number
from perfectgraphs.errors import GraphError, TooMany
from perfectgraphs.isomorphisms import are_isomorphic
from perfectgraphs.perfection import is_perfect
from perfectgraphs.substitution import (
    is_module, join, modules, multiplied, replicated, substituted, taken_apart, union,
)

EDGE, DOTS = (2, ((0, 1),)), (2, ())
SMALL = [graph for many in range(4) for graph in helper.all_graphs(many)]
GREATER = [FIVE, HOUSE, DOUBLED, helper.round_of(4), (5, ())] + helper.all_graphs(4)[::9] + helper.scattered(6, 6)


def is_edge(graph, one, other):
    return (min(one, other), max(one, other)) in graph[1]


def told_by(vertices, are_adjacent):
    """The graph of these vertices, whatever they are, in their order."""
    many = len(vertices)
    pairs = [pair for pair in helper.all_pairs(many) if are_adjacent(vertices[pair[0]], vertices[pair[1]])]
    return helper.graph_with(many, pairs)


def of_two_sides(graph, other, between):
    """Vertices told as (0, V) of the one graph and (1, W) of the other, adjacent across as told."""
    def are_adjacent(one, two):
        if one[0] == two[0]:
            return is_edge((graph, other)[one[0]], one[1], two[1])
        return between(one[1], two[1])
    return are_adjacent


def substituted_by_words(graph, vertex, other):
    vertices = [(0, one) for one in range(graph[0]) if one != vertex] + [(1, one) for one in range(other[0])]
    return told_by(vertices, of_two_sides(graph, other, lambda one, _: is_edge(graph, one, vertex)))


def beside_by_words(graph, other, is_joined):
    vertices = [(0, one) for one in range(graph[0])] + [(1, one) for one in range(other[0])]
    return told_by(vertices, of_two_sides(graph, other, lambda one, two: is_joined))


def copied_by_words(graph, times, is_clique):
    copies = [(vertex, copy) for vertex in range(graph[0]) for copy in range(times[vertex])]
    return told_by(copies, lambda one, two: is_clique if one[0] == two[0] else is_edge(graph, one[0], two[0]))


class Session(unittest.TestCase):
    def test_answers(self):
        self.assertEqual(
            [substituted(FIVE, 4, EDGE) == DOUBLED, replicated(HOUSE, (1, 0, 2, 0, 1)), multiplied(EDGE, (2, 2)),
             union(EDGE, (1, ())), join(DOTS, DOTS)],
            [True, (4, ((1, 2), (1, 3), (2, 3))), (4, ((0, 2), (0, 3), (1, 2), (1, 3))), (3, ((0, 1),)),
             (4, ((0, 2), (0, 3), (1, 2), (1, 3)))])
        self.assertEqual(
            [modules(HOUSE), modules(DOUBLED), is_module(DOUBLED, (5, 4)),
             taken_apart(DOUBLED, (4, 5)) == (FIVE, 4, EDGE)],
            [(), ((4, 5),), False, True])


class Substituting(unittest.TestCase):
    def test_vertex_by_vertex(self):
        for graph in SMALL + GREATER:
            for other in SMALL + GREATER[:2]:
                for vertex in range(graph[0]):
                    if graph[0] - 1 + other[0] <= 9:
                        told = substituted(graph, vertex, other)
                        self.assertEqual(told, substituted_by_words(graph, vertex, other))
                        self.assertEqual(substituted(other=other, vertex=vertex, graph=graph), told)

    def test_perfect_exactly_if_both_are(self):
        for graph in GREATER:
            for other in GREATER[:4] + SMALL[1::3]:
                if graph[0] - 1 + other[0] <= 9:
                    told = substituted(graph, graph[0] // 2, other)
                    self.assertIs(is_perfect(told), is_perfect(graph) and is_perfect(other))

    def test_by_a_graph_without_vertices_the_vertex_goes(self):
        for vertex in range(5):
            rest = helper.induced_by(FIVE, [one for one in range(5) if one != vertex])
            self.assertEqual(substituted(FIVE, vertex, (0, ())), rest)
        self.assertEqual(substituted((1, ()), 0, (0, ())), (0, ()))
        self.assertEqual(substituted((1, ()), 0, FIVE), FIVE)

    def test_nine_vertices_are_let_ten_are_not(self):
        for many in range(1, 10):
            for more in range(10):
                graph, other = (many, ()), helper.opposite((more, ()))
                if many - 1 + more <= 9:
                    self.assertEqual(substituted(graph, 0, other), substituted_by_words(graph, 0, other))
                else:
                    self.assertRaises(TooMany, substituted, graph, many - 1, other)


class SideBySide(unittest.TestCase):
    def test_vertex_by_vertex(self):
        for graph in SMALL + GREATER:
            for other in SMALL + GREATER[:4]:
                if graph[0] + other[0] <= 9:
                    self.assertEqual(union(graph, other), beside_by_words(graph, other, False))
                    self.assertEqual(join(other=other, graph=graph), beside_by_words(graph, other, True))
                    self.assertEqual(union(other=other, graph=graph), union(graph, other))

    def test_perfect_exactly_if_both_are(self):
        for graph in GREATER:
            for other in GREATER[:4] + SMALL[::3]:
                if graph[0] + other[0] <= 9:
                    for told in (union(graph, other), join(graph, other)):
                        self.assertIs(is_perfect(told), is_perfect(graph) and is_perfect(other))

    def test_nine_vertices_are_let_ten_are_not(self):
        for many in range(10):
            for more in range(10):
                graph, other = helper.opposite((many, ())), (more, ())
                for function, is_joined in ((union, False), (join, True)):
                    if many + more <= 9:
                        self.assertEqual(function(graph, other), beside_by_words(graph, other, is_joined))
                    else:
                        self.assertRaises(TooMany, function, graph, other)

    def test_without_vertices(self):
        for graph in GREATER:
            for function in (union, join):
                self.assertEqual(function(graph, (0, ())), graph)
                self.assertEqual(function((0, ()), graph), graph)


class Copies(unittest.TestCase):
    def test_vertex_by_vertex(self):
        for graph in SMALL + helper.all_graphs(4)[::5]:
            for times in product(range(4), repeat=graph[0]):
                if sum(times) <= 9:
                    self.assertEqual(replicated(graph, times), copied_by_words(graph, times, True))
                    self.assertEqual(multiplied(graph, times), copied_by_words(graph, times, False))

    def test_of_greater_graphs(self):
        for graph in GREATER + [helper.round_of(9), helper.round_of(7)]:
            many = graph[0]
            for times in ((0,) * many, (1,) * many, (0, 2) * 4 + (1,), (1, 0, 2, 0, 3, 0, 1, 0, 0), (9,) + (0,) * 8):
                times = times[:many]
                if sum(times) <= 9:
                    self.assertEqual(replicated(graph, times), copied_by_words(graph, times, True))
                    self.assertEqual(multiplied(times=times, graph=graph), copied_by_words(graph, times, False))

    def test_what_comes_of_a_perfect_graph_is_perfect(self):
        for graph in helper.all_graphs(4)[::3] + [HOUSE]:
            for times in ((2, 1, 0, 3, 1), (1, 3, 2, 0, 2), (0, 2, 3, 2, 1)):
                for function in (replicated, multiplied):
                    self.assertIs(is_perfect(function(graph, times[:graph[0]])), True)
        for times in ((1, 1, 1, 1, 1), (2, 1, 2, 1, 1), (1, 1, 5, 1, 1)):
            for function in (replicated, multiplied):
                self.assertIs(is_perfect(function(FIVE, times)), False)
                self.assertIs(is_perfect(function(FIVE, (0,) + times[1:])), True)

    def test_the_numbers_of_what_comes_of_it(self):
        for graph in [HOUSE, FIVE] + helper.all_graphs(4)[::5]:
            for times in ((2, 1, 0, 3, 1), (1, 3, 2, 0, 2), (0, 2, 3, 2, 1), (0, 0, 0, 0, 0)):
                times = times[:graph[0]]
                weight = [sum(times[vertex] for vertex in lot) for lot in helper.cliques_of(graph)]
                self.assertEqual(clique_number(replicated(graph, times)), max(weight))
                weight = [sum(times[vertex] for vertex in lot) for lot in helper.stable_sets_of(graph)]
                self.assertEqual(stable_number(multiplied(graph, times)), max(weight))
                kept = [vertex for vertex in range(graph[0]) if times[vertex]]
                many_colours = helper.fewest_colours_of(helper.induced_by(graph, kept))
                self.assertEqual(chromatic_number(multiplied(graph, times)), many_colours)

    def test_nine_copies_are_let_ten_are_not(self):
        for function in (replicated, multiplied):
            for times in ((9, 0), (0, 9), (4, 5), (3, 3)):
                self.assertEqual(function(EDGE, times)[0], sum(times))
            for times in ((10, 0), (0, 10), (5, 5), (9, 1), (10 ** 39, 0), (10 ** 39, 10 ** 39)):
                self.assertRaises(TooMany, function, EDGE, times)
            self.assertEqual(function((0, ()), ()), (0, ()))
            self.assertEqual(function(FIVE, (0,) * 5), (0, ()))

    def test_too_many_is_told_last(self):
        great = (9, ())
        for call in (lambda: substituted(great, 9, great), lambda: substituted(great, 0, (10, ())),
                     lambda: union(great, (9, [])), lambda: join(great, None), lambda: replicated(FIVE, (9,) * 4),
                     lambda: multiplied(FIVE, (9, 9, 9, 9, -1)), lambda: replicated(FIVE, (9, 9, 9, 9, True))):
            with self.assertRaises(GraphError) as caught:
                call()
            self.assertNotIsInstance(caught.exception, TooMany)


class Modules(unittest.TestCase):
    MANY = SMALL + GREATER + helper.extreme_graphs() + helper.all_graphs(5)[::13] + helper.even_rounds()
    MANY = MANY + helper.odd_rounds_and_kin()[::3]

    def test_beside_a_look_at_all_lots(self):
        for graph in self.MANY:
            told = helper.modules_of(graph)
            self.assertEqual(modules(graph), told, graph)
            self.assertEqual(modules(graph=graph), told)
            among = set(told)
            for lot in helper.lots_of(graph):
                self.assertIs(is_module(graph, lot), lot in among, (graph, lot))

    def test_bent_values(self):
        for graph in (DOUBLED, (3, ()), helper.opposite((3, ())), helper.round_of(4)):
            told = helper.modules_of(graph)
            for lot in told:
                for value in helper.bent(lot):
                    self.assertIs(is_module(graph, value), helper.is_among(value, told), value)

    def test_values_of_any_kind(self):
        for graph in (DOUBLED, (0, ()), (3, ())):
            for value in helper.ANY_VALUES + [[4, 5], (4, "5"), (5, 4), (4, 5, 5), (True, 5), {4, 5}]:
                self.assertIs(is_module(graph, value), False, repr(value))
                self.assertIs(is_module(value=value, graph=graph), False)

    def test_taken_apart_and_put_back(self):
        for graph in self.MANY:
            if graph[0] > 7:
                continue
            for lot in helper.modules_of(graph):
                told = taken_apart(graph, lot)
                self.assertIs(type(told), tuple)
                quotient, vertex, inner = told
                rest = sorted(set(range(graph[0])) - set(lot[1:]))
                self.assertEqual(quotient, helper.induced_by(graph, rest))
                self.assertEqual(rest[vertex], lot[0])
                self.assertEqual(inner, helper.induced_by(graph, lot))
                put_back = substituted(quotient, vertex, inner)
                order = [one for one in rest if one != lot[0]] + list(lot)
                self.assertEqual(helper.renamed_by(put_back, order), graph)
                self.assertIs(are_isomorphic(put_back, graph), True)

    def test_perfect_exactly_if_both_are(self):
        for graph in self.MANY[::2] + [DOUBLED, helper.copied(helper.round_of(7), 2, False)]:
            for lot in helper.modules_of(graph)[:6]:
                quotient, _, inner = taken_apart(module=lot, graph=graph)
                self.assertIs(is_perfect(graph), is_perfect(quotient) and is_perfect(inner))


if __name__ == "__main__":
    unittest.main()
