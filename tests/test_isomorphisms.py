import unittest
from itertools import permutations, product
from math import factorial

import helper
from helper import DOUBLED, FIVE, HOUSE
from perfectgraphs.errors import TooMany
from perfectgraphs.holes import antiholes, holes, is_berge
from perfectgraphs.isomorphisms import (
    are_isomorphic, automorphisms, does_lead, is_renaming, is_self_complementary, least_form, renamed, renaming_to,
)
from perfectgraphs.perfection import is_minimal, is_perfect
from perfectgraphs.substitution import modules

SMALL = helper.small_graphs()
UP_TO_SIX = helper.all_graphs(5)[::17] + helper.scattered(6, 14) + [HOUSE, FIVE, DOUBLED, (6, ())]
GREAT = (
    helper.even_rounds() + helper.extreme_graphs() + helper.odd_rounds_and_kin()[::4]
    + [graph for many in (7, 8, 9) for graph in helper.scattered(many, 12)]
)


def least_of(graph):
    return (graph[0], min(helper.renamed_by(graph, names)[1] for names in permutations(range(graph[0]))))


class Session(unittest.TestCase):
    def test_answers(self):
        self.assertEqual(
            [least_form(FIVE), automorphisms(HOUSE), len(automorphisms(FIVE)), is_self_complementary(FIVE),
             renaming_to(HOUSE, FIVE), does_lead(HOUSE, HOUSE, (3, 2, 1, 0, 4))],
            [(5, ((0, 1), (0, 2), (1, 3), (2, 4), (3, 4))), ((0, 1, 2, 3, 4), (3, 2, 1, 0, 4)), 10, True, None, True])
        self.assertEqual(
            [renamed((3, ((0, 1),)), (2, 0, 1)), are_isomorphic(HOUSE, FIVE),
             least_form((4, ((0, 1), (1, 2), (2, 3))))],
            [(3, ((0, 2),)), False, (4, ((0, 1), (0, 2), (1, 3)))])


class Renamings(unittest.TestCase):
    def test_each_tuple_of_numbers(self):
        for many in range(5):
            told = set(permutations(range(many)))
            for size in range(6):
                for value in product(range(-1, many + 1), repeat=size):
                    self.assertIs(is_renaming((many, ()), value), value in told)

    def test_bent_values(self):
        for graph in (HOUSE, (1, ()), (3, ())):
            told = list(permutations(range(graph[0])))
            for renaming in told[::7]:
                self.assertIs(is_renaming(graph, renaming), True)
                for value in helper.bent(renaming):
                    self.assertIs(is_renaming(graph, value), helper.is_among(value, told), value)

    def test_values_of_any_kind(self):
        strange = helper.ANY_VALUES + [
            [0, 1, 2, 3, 4], "01234", (0, 1, 2, 3, "4"), (False, True, 2, 3, 4), (0, 1, 2, 3, [4]), (0, 1, 2, 3, {}),
            (0, 1, 2, 3, set()), (helper.Odd(),) * 5, (0, 1, 2, 3, 4) * 400, {0: 0, 1: 1}, range(5), (4, 3, 2, 1, -5),
        ]
        for value in strange:
            self.assertIs(is_renaming(HOUSE, value), False, repr(value))
            self.assertIs(does_lead(HOUSE, HOUSE, value), False, repr(value))
            self.assertIs(is_renaming(value=value, graph=HOUSE), False)
            self.assertIs(does_lead(value=value, other=HOUSE, graph=HOUSE), False)
        self.assertIs(is_renaming((0, ()), ()), True)
        self.assertIs(does_lead((0, ()), (0, ()), ()), True)

    def test_renamed_edge_by_edge(self):
        for graph in SMALL[::3] + [HOUSE, FIVE]:
            for names in permutations(range(graph[0])):
                told = helper.renamed_by(graph, names)
                self.assertEqual(renamed(graph, names), told)
                self.assertEqual(renamed(renaming=names, graph=graph), told)
                self.assertIs(does_lead(graph, told, names), True)
        for graph in GREAT:
            for names in helper.shuffles(graph[0], 4):
                self.assertEqual(renamed(graph, names), helper.renamed_by(graph, names))

    def test_does_lead_just_to_one_graph(self):
        for graph in (HOUSE, FIVE, (5, ())):
            for names in permutations(range(5)):
                self.assertIs(does_lead(graph, graph, names), helper.renamed_by(graph, names) == graph)
                self.assertIs(does_lead(HOUSE, graph, names), helper.renamed_by(HOUSE, names) == graph)
        for many in range(4):
            self.assertIs(does_lead((3, ()), (many, ()), (0, 1, 2)), many == 3)
            self.assertIs(does_lead((many, ()), (3, ()), (0, 1, 2)), many == 3)
        for value in helper.bent((3, 2, 1, 0, 4)):
            self.assertIs(does_lead(HOUSE, HOUSE, value), False, value)

    def test_what_is_told_of_a_graph_is_led_along(self):
        for graph in UP_TO_SIX + GREAT[::5]:
            names = helper.shuffles(graph[0], 3)[2]
            other = renamed(graph, names)
            for told_of in (is_perfect, is_berge, is_minimal):
                self.assertIs(told_of(other), told_of(graph))
            for all_of in (holes, antiholes, modules):
                sets = sorted(sorted(names[vertex] for vertex in lot) for lot in all_of(graph))
                self.assertEqual(sorted(sorted(lot) for lot in all_of(other)), sets)


class Isomorphic(unittest.TestCase):
    def check_leads(self, graph, other):
        names = renaming_to(graph, other)
        self.assertEqual(sorted(names), list(range(graph[0])))
        self.assertIs(type(names), tuple)
        self.assertEqual(helper.renamed_by(graph, names), other)
        self.assertIs(are_isomorphic(graph, other), True)

    def test_renamed_graphs(self):
        for graph in SMALL + UP_TO_SIX + GREAT:
            for names in helper.shuffles(graph[0], 5):
                self.check_leads(graph, helper.renamed_by(graph, names))

    def test_all_pairs_of_small_graphs(self):
        for many in range(5):
            least = {graph: least_of(graph) for graph in helper.all_graphs(many)}
            for graph in helper.all_graphs(many):
                for other in helper.all_graphs(many):
                    if least[graph] == least[other]:
                        self.check_leads(graph, other)
                    else:
                        self.assertIsNone(renaming_to(graph, other))
                        self.assertIs(are_isomorphic(graph, other), False)

    def test_with_an_edge_moved(self):
        for graph in UP_TO_SIX + GREAT:
            many, edges = graph
            missing = helper.opposite(graph)[1]
            for at in range(0, min(len(edges), len(missing)), 2):
                other = helper.graph_with(many, edges[:at] + edges[at + 1:] + (missing[at],))
                names = renaming_to(graph, other)
                if names is not None:
                    self.check_leads(graph, other)
                elif many <= 6:
                    self.assertNotEqual(least_of(graph), least_of(other))
                degrees = [sorted(sum(vertex in pair for pair in one[1]) for vertex in range(many))
                           for one in (graph, other)]
                if degrees[0] != degrees[1]:
                    self.assertIsNone(names)

    def test_alike_in_all_degrees(self):
        # Each vertex has two neighbours: one round of six to nine, or two rounds.
        for many in (6, 7, 8, 9):
            two = helper.graph_with(many, [(0, 1), (1, 2), (0, 2)] + [(at, at + 1) for at in range(3, many - 1)]
                                    + [(3, many - 1)])
            self.assertIsNone(renaming_to(two, helper.round_of(many)))
            self.assertIs(are_isomorphic(helper.opposite(two), helper.opposite(helper.round_of(many))), False)

    def test_other_numbers_of_vertices(self):
        for many in range(10):
            for more in range(10):
                if many != more:
                    self.assertIsNone(renaming_to((many, ()), (more, ())))
                    self.assertIs(are_isomorphic(other=(many, ()), graph=(more, ())), False)
                else:
                    self.assertEqual(sorted(renaming_to(graph=(many, ()), other=(many, ()))), list(range(many)))


class SelfComplementary(unittest.TestCase):
    def test_made_ones(self):
        for many in (0, 1, 4, 5, 8, 9):
            for choice in (0, 1, 5, 10, 99, 1000, 12345):
                graph = helper.self_complementary(many, choice)
                self.assertIs(is_self_complementary(graph), True, graph)
                self.assertIs(is_self_complementary(graph=helper.opposite(graph)), True)

    def test_all_small_ones(self):
        for many in range(6):
            told = [graph for graph in helper.all_graphs(many) if is_self_complementary(graph)]
            self.assertEqual(len(told), (1, 1, 0, 0, 12, 72)[many])
            for graph in told:
                self.assertEqual(least_of(graph), least_of(helper.opposite(graph)))

    def test_others(self):
        for graph in GREAT:
            many = graph[0]
            if many * (many - 1) // 2 != 2 * len(graph[1]):
                self.assertIs(is_self_complementary(graph), False)
        half = helper.graph_with(8, helper.all_pairs(8)[:14])
        self.assertIs(is_self_complementary(half), False)


class AllRenamings(unittest.TestCase):
    def test_beside_all_orders(self):
        seven = [helper.round_of(7), helper.scattered(7, 3)[2], (7, ((0, 6),))]
        for graph in SMALL + UP_TO_SIX + seven:
            many = graph[0]
            ways = {names: helper.renamed_by(graph, names) for names in permutations(range(many))}
            told = tuple(names for names in ways if ways[names] == graph)
            self.assertEqual(automorphisms(graph), told, graph)
            self.assertEqual(least_form(graph), (many, min(way[1] for way in ways.values())), graph)
            self.assertEqual(len(set(ways.values())) * len(told), factorial(many))

    def test_of_seven_that_are_alike(self):
        for graph in ((7, ()), helper.opposite((7, ()))):
            self.assertEqual(len(automorphisms(graph=graph)), 5040)
            self.assertEqual(least_form(graph=graph), graph)
        self.assertEqual(len(automorphisms(helper.round_of(7))), 14)
        told = automorphisms((7, ()))
        self.assertEqual(told, tuple(permutations(range(7))))

    def test_least_forms_tell_which_are_isomorphic(self):
        graphs = UP_TO_SIX[:30]
        for graph in graphs:
            for other in graphs:
                if graph[0] == other[0]:
                    self.assertIs(are_isomorphic(graph, other), least_form(graph) == least_form(other))

    def test_eight_vertices_are_refused(self):
        for many in (8, 9):
            for graph in ((many, ()), helper.round_of(many)):
                for function in (automorphisms, least_form):
                    with self.assertRaises(TooMany) as caught:
                        function(graph)
                    self.assertEqual(vars(caught.exception), {})

    def test_without_vertices(self):
        self.assertEqual([automorphisms((0, ())), least_form((0, ())), renaming_to((0, ()), (0, ()))],
                         [((),), (0, ()), ()])
        self.assertIs(is_self_complementary((0, ())), True)


if __name__ == "__main__":
    unittest.main()
