import unittest
from itertools import product

import helper
from helper import DOUBLED, FIVE, HOUSE
from perfectgraphs.cliques import (
    chromatic_number, clique_number, cliques, colouring, is_clique, is_colouring, is_stable, stable_number,
    stable_sets,
)

MANY_GRAPHS = (
    helper.small_graphs() + helper.all_graphs(5)[::7] + helper.extreme_graphs() + helper.even_rounds()
    + helper.odd_rounds_and_kin() + [HOUSE, FIVE, DOUBLED]
    + [graph for many, count in ((6, 40), (7, 30), (8, 16), (9, 12)) for graph in helper.scattered(many, count)]
)


class Session(unittest.TestCase):
    def test_answers(self):
        self.assertEqual(cliques(HOUSE), ((0, 1), (0, 3), (1, 2, 4), (2, 3)))
        self.assertEqual(stable_sets(FIVE), ((0, 2), (0, 3), (1, 3), (1, 4), (2, 4)))
        self.assertEqual(
            [is_clique(HOUSE, (1, 2, 4)), is_stable(HOUSE, (0, 4)), is_stable(HOUSE, ())], [True, True, True])
        self.assertEqual(
            [clique_number(HOUSE), chromatic_number(HOUSE), stable_number(HOUSE), clique_number(FIVE),
             chromatic_number(FIVE), is_colouring(FIVE, colouring(FIVE)), is_colouring(FIVE, (0, 1, 0, 1, 1))],
            [3, 3, 2, 2, 3, True, False])


class CliquesAndStableSets(unittest.TestCase):
    def test_each_lot_pair_by_pair(self):
        for graph in MANY_GRAPHS:
            told, told_stable = set(helper.cliques_of(graph)), set(helper.stable_sets_of(graph))
            for lot in helper.lots_of(graph):
                self.assertIs(is_clique(graph, lot), lot in told, (graph, lot))
                self.assertIs(is_stable(graph, lot), lot in told_stable, (graph, lot))

    def test_all_maximal_ones_ascending(self):
        for graph in MANY_GRAPHS:
            self.assertEqual(cliques(graph), helper.maximal_of(helper.cliques_of(graph)), graph)
            self.assertEqual(stable_sets(graph), helper.maximal_of(helper.stable_sets_of(graph)), graph)

    def test_those_of_the_complement_are_exchanged(self):
        for graph in MANY_GRAPHS:
            other = helper.opposite(graph)
            self.assertEqual(cliques(graph), stable_sets(other))
            self.assertEqual(stable_sets(graph), cliques(other))
            self.assertEqual(clique_number(graph), stable_number(other))
            self.assertEqual(stable_number(graph), clique_number(other))

    def test_tuples_throughout(self):
        for graph in MANY_GRAPHS[::9]:
            for told in (cliques(graph), stable_sets(graph)):
                self.assertIs(type(told), tuple)
                self.assertEqual([type(lot) for lot in told], [tuple] * len(told))

    def test_without_vertices(self):
        none = (0, ())
        self.assertEqual([cliques(none), stable_sets(none), colouring(none)], [((),), ((),), ()])
        self.assertEqual([clique_number(none), stable_number(none), chromatic_number(none)], [0, 0, 0])
        self.assertEqual([is_clique(none, ()), is_stable(none, ()), is_colouring(none, ())], [True, True, True])

    def test_by_name(self):
        self.assertIs(is_clique(lot=(2, 4), graph=HOUSE), True)
        self.assertIs(is_stable(lot=(2, 4), graph=HOUSE), False)
        self.assertEqual(cliques(graph=FIVE), FIVE[1])
        self.assertEqual(stable_sets(graph=helper.opposite(FIVE)), FIVE[1])


class Numbers(unittest.TestCase):
    def test_beside_a_search(self):
        for graph in MANY_GRAPHS:
            self.assertEqual(clique_number(graph), max(map(len, helper.cliques_of(graph))), graph)
            self.assertEqual(stable_number(graph), max(map(len, helper.stable_sets_of(graph))), graph)
            self.assertEqual(chromatic_number(graph), helper.fewest_colours_of(graph), graph)
            self.assertGreaterEqual(chromatic_number(graph), clique_number(graph))

    def test_rounds(self):
        for many in range(4, 10):
            graph = helper.round_of(many)
            told = [clique_number(graph=graph), stable_number(graph=graph), chromatic_number(graph=graph)]
            self.assertEqual(told, [2, many // 2, 2 + many % 2])

    def test_edgeless_and_complete(self):
        for many in range(1, 10):
            told = (many, ())
            self.assertEqual([clique_number(told), stable_number(told), chromatic_number(told)], [1, many, 1])
            told = helper.opposite(told)
            self.assertEqual([clique_number(told), stable_number(told), chromatic_number(told)], [many, 1, many])


class Colourings(unittest.TestCase):
    def is_one(self, graph, value):
        if type(value) is not tuple or len(value) != graph[0]:
            return False
        if any(type(colour) is not int or colour < 0 for colour in value):
            return False
        classes = [[at for at in range(len(value)) if value[at] == colour] for colour in value]
        stable = set(helper.stable_sets_of(graph))
        return all(tuple(lot) in stable for lot in classes)

    def test_with_as_few_colours_as_can_be(self):
        for graph in MANY_GRAPHS:
            told = colouring(graph)
            self.assertTrue(self.is_one(graph, told), graph)
            self.assertEqual(sorted(set(told)), list(range(helper.fewest_colours_of(graph))), graph)
            self.assertIs(is_colouring(graph, told), True)
            self.assertEqual(colouring(graph=graph), told)

    def test_each_tuple_of_colours(self):
        for graph in helper.small_graphs() + [HOUSE, FIVE]:
            for value in product(range(-1, 3), repeat=graph[0]):
                self.assertIs(is_colouring(graph, value), self.is_one(graph, value), (graph, value))

    def test_colours_far_beyond_what_is_needed(self):
        for graph in MANY_GRAPHS[::11]:
            many = graph[0]
            self.assertIs(is_colouring(graph, tuple(10 ** 39 - at for at in range(many))), True)
            self.assertIs(is_colouring(graph, tuple(colour + 77 for colour in colouring(graph))), True)
            self.assertIs(is_colouring(graph, tuple(range(many + 1))), False)
            self.assertIs(is_colouring(graph, tuple(range(many - 1))), many == 0)
            self.assertIs(is_colouring(graph, tuple(range(-1, many - 1))), many == 0)
            self.assertIs(is_colouring(graph, (5,) * many), graph[1] == ())

    def test_bent_values(self):
        for graph in (HOUSE, FIVE, DOUBLED, (1, ()), (3, ())):
            for value in helper.bent(colouring(graph)):
                self.assertIs(is_colouring(graph, value), self.is_one(graph, value), (graph, value))

    def test_values_of_any_kind(self):
        for graph in (HOUSE, (0, ()), (1, ()), (2, ()), (2, ((0, 1),))):
            for value in helper.ANY_VALUES + [(None, 0), ("0", "1"), ((0,), (1,)), (0, helper.Odd()), (0, True)]:
                self.assertIs(is_colouring(graph, value), self.is_one(graph, value), (graph, value))
                self.assertIs(is_colouring(value=value, graph=graph), self.is_one(graph, value))


if __name__ == "__main__":
    unittest.main()
