import unittest

import helper
from helper import DOUBLED, FIVE, HOUSE, is_cover_told, is_pair_told
from perfectgraphs.cliques import chromatic_number, clique_number
from perfectgraphs.substitution import replicated
from perfectgraphs.weights import heaviest_clique, is_cover, is_pair, pair

MANY_GRAPHS = (
    helper.all_graphs(4)[::3] + helper.extreme_graphs() + helper.even_rounds() + helper.odd_rounds_and_kin()[::3]
    + [HOUSE, FIVE, DOUBLED] + [graph for many in (5, 6, 7, 8, 9) for graph in helper.scattered(many, 10)]
)


def one_by_one(weights):
    """The cover by single vertices."""
    return tuple(((vertex,), weight) for vertex, weight in enumerate(weights) if weight)


class Session(unittest.TestCase):
    def test_answers(self):
        ones = (1, 1, 1, 1, 1)
        self.assertEqual(
            [is_pair(HOUSE, (4, 1, 1, 5, 3), pair(HOUSE, (4, 1, 1, 5, 3))), heaviest_clique(HOUSE, (4, 1, 1, 5, 3)),
             pair(FIVE, ones), is_pair(FIVE, (3, 1, 0, 1, 0), pair(FIVE, (3, 1, 0, 1, 0)))],
            [True, (0, 3), None, True])
        self.assertEqual(
            [is_cover(FIVE, ones, (((0, 2), 1), ((1, 3), 1), ((4,), 1))),
             is_cover(FIVE, ones, (((0, 2), 1), ((1, 3), 1)))],
            [True, False])


class Covers(unittest.TestCase):
    WEIGHTS = (2, 1, 0, 3, 1)

    def check(self, graph, weights, value, told):
        self.assertIs(is_cover(graph, weights, value), told, (graph, weights, value))
        self.assertIs(is_cover_told(graph, weights, value), told, (graph, weights, value))

    def test_vertex_by_vertex(self):
        for graph in MANY_GRAPHS:
            for weights in helper.weights_for(graph[0], 6):
                self.check(graph, weights, one_by_one(weights), True)
                for at, (lot, times) in enumerate(one_by_one(weights)):
                    ahead, behind = one_by_one(weights)[:at], one_by_one(weights)[at + 1:]
                    self.check(graph, weights, ahead + behind, False)
                    self.check(graph, weights, ahead + ((lot, times + 1),) + behind, True)
                    self.check(graph, weights, ahead + ((lot, times - 1),) + behind, False)
                    self.check(graph, weights, ahead + ((lot, 10 ** 39),) + behind, True)
                    self.check(graph, weights, ahead + ((lot, times), (lot, times)) + behind, False)
                    self.check(graph, weights, ahead + ((lot, times), (lot, times + 1)) + behind, False)

    def test_with_one_thing_otherwise(self):
        right = (((0, 2), 2), ((1, 3), 3), ((4,), 1))
        weights = self.WEIGHTS
        self.check(FIVE, weights, right, True)
        for wrong in (
            right[1:], right[:2], right[::-1], right + (((4,), 1),), (((0,), 1),) + right[1:],
            (((0, 1), 2), ((1, 3), 3), ((4,), 1)), ((), 5) + right, (((), 1),) + right, right + ((),),
            (((0, 2), 2), ((1, 3), 2), ((4,), 1)), (((0, 2), 2), ((1, 3), 3), ((4,), 0)),
            (((0, 2), 2), ((1, 3), 3), ((4,), -1)), (((0, 2), 2), ((1, 3), 3), ((4,), True)),
            (((0, 2), 2), ((1, 3), 3), ((4,), (1, 1))), (((2, 0), 2), ((1, 3), 3), ((4,), 1)),
            (((0, 2), 2), ((1, 3), 3), ((5,), 1)), (((0, 2), 2), ((1, 3), 3), ((4, 4), 1)),
            (((1, 3), 3), ((0, 2), 2), ((4,), 1)), (((0, 2), 1), ((0, 2), 2), ((1, 3), 3), ((4,), 1)),
        ):
            self.check(FIVE, weights, wrong, False)
        for more in ((((0,), 1),) + right, right[:1] + (((0, 3), 7),) + right[1:]):
            self.check(FIVE, weights, more, True)

    def test_bent_values(self):
        right = (((0, 2), 2), ((1, 3), 3), ((4,), 1))
        for graph, weights, cover in ((FIVE, self.WEIGHTS, right), (HOUSE, (1, 0, 0, 2, 1), (((0, 4), 1), ((3,), 2)))):
            self.assertIs(is_cover(graph, weights, cover), True)
            for value in helper.bent(cover):
                self.assertIs(is_cover(graph, weights, value), is_cover_told(graph, weights, value), value)

    def test_weights_that_are_all_zero(self):
        for graph in (FIVE, HOUSE, (0, ()), (9, ())):
            weights = (0,) * graph[0]
            self.check(graph, weights, (), True)
            self.check(graph, weights, ((0,),), False)
            self.check(graph, weights, (((), 1),), False)
        self.assertIs(is_cover(value=(), weights=(), graph=(0, ())), True)

    def test_values_of_any_kind(self):
        strange = helper.ANY_VALUES + [
            [((0, 2), 1)], (((0, 2), "1"),), (((0, 2), None),), (((0, 2), [1]),), (([0, 2], 1),), (("02", 1),),
            (((0, helper.Odd()), 1),), ((helper.Odd(), 1),), (((0,), helper.Odd()),), ((None, 1),), ({0: 1},),
            (((0,), 1), ((), 1)), (((0,), 1),) * 2000, ((((0,),), 1),), ((({},), 1),), "((0,), 1)",
        ]
        for weights in ((0,) * 5, (1,) * 5):
            for value in strange:
                for told in (value, ((), value), (value, ())):
                    self.assertIs(is_cover(FIVE, weights, told), is_cover_told(FIVE, weights, told), repr(told))
                    self.assertIs(is_pair(FIVE, weights, told), is_pair_told(FIVE, weights, told), repr(told))
                if not helper.is_among(value, [()]):
                    self.assertIs(is_cover(FIVE, weights, value), False, repr(value))


class Pairs(unittest.TestCase):
    def test_for_many_weights(self):
        for graph in MANY_GRAPHS:
            for weights in helper.weights_for(graph[0], 10):
                kept = [vertex for vertex in range(graph[0]) if weights[vertex]]
                told = pair(graph, weights)
                if helper.odd_rounds_of(helper.induced_by(graph, kept)):
                    self.assertIsNone(told, (graph, weights))
                else:
                    self.assertTrue(is_pair_told(graph, weights, told), (graph, weights, told))
                    self.assertIs(is_pair(graph, weights, told), True)
                    self.assertEqual(sum(weights[vertex] for vertex in told[0]), helper.heaviest_of(graph, weights))
                    self.assertEqual(pair(weights=weights, graph=graph), told)

    def test_none_on_all_of_an_odd_hole_or_antihole(self):
        for graph in helper.odd_rounds_and_kin():
            for word, hole in helper.odd_rounds_of(graph)[:2]:
                weights = tuple(int(vertex in hole) for vertex in range(graph[0]))
                self.assertIsNone(pair(graph, weights))
                self.assertIsNone(pair(graph, tuple(weight * 1000000 for weight in weights)))

    def test_a_pair_of_a_graph_that_is_not_perfect(self):
        # The heaviest clique and a cover may meet all the same; pair does not tell of it.
        weights, told = (1, 2, 1, 1, 1), ((0, 1), (((0, 2), 1), ((1, 3), 1), ((1, 4), 1)))
        self.assertIsNone(pair(FIVE, weights))
        self.assertIs(is_pair(FIVE, weights, told), True)
        self.assertIs(is_pair_told(FIVE, weights, told), True)

    def test_with_one_thing_otherwise(self):
        weights = (4, 1, 1, 5, 3)
        clique, cover = pair(HOUSE, weights)
        for other in ((0, 1), (1, 2, 4), (), (3,), (0, 4), (3, 0), [0, 3], (0, 3, 3), (False, 3)):
            self.assertIs(is_pair(HOUSE, weights, (other, cover)), False, other)
        dearer = cover[:-1] + ((cover[-1][0], cover[-1][1] + 1),)
        for other in (cover[1:], cover[:-1], cover[::-1], dearer, list(cover), ()):
            self.assertIs(is_pair(HOUSE, weights, (clique, other)), False, other)
        for value in helper.bent((clique, cover)):
            self.assertIs(is_pair(HOUSE, weights, value), is_pair_told(HOUSE, weights, value), value)
        self.assertIs(is_pair(HOUSE, weights, (cover, clique)), False)
        self.assertIs(is_pair(value=(clique, cover), weights=weights, graph=HOUSE), True)

    def test_lots_that_weigh_as_much_as_a_cover(self):
        for graph in MANY_GRAPHS[::3]:
            for weights in helper.weights_for(graph[0], 4):
                cover = one_by_one(weights)
                for lot in helper.lots_of(graph)[::7] + [tuple(range(graph[0]))]:
                    value = (lot, cover)
                    self.assertIs(is_pair(graph, weights, value), is_pair_told(graph, weights, value), value)
        self.assertIs(is_pair((2, ()), (1, 1), ((0, 1), (((0,), 1), ((1,), 1)))), False)
        self.assertIs(is_pair((2, ((0, 1),)), (1, 1), ((0, 1), (((0,), 1), ((1,), 1)))), True)

    def test_without_weight(self):
        for graph in (FIVE, HOUSE, (0, ()), (9, ())):
            weights = (0,) * graph[0]
            for clique in helper.cliques_of(graph):
                self.assertIs(is_pair(graph, weights, (clique, ())), True)
            self.assertEqual(pair(graph, weights)[1], ())
        self.assertEqual(pair((0, ()), ()), ((), ()))

    def test_beside_replicated_graphs(self):
        for graph in helper.all_graphs(4)[::3] + [HOUSE]:
            for times in ((2, 1, 0, 3, 1), (1, 3, 2, 0, 2), (0, 2, 3, 2, 1)):
                times = times[:graph[0]]
                clique, cover = pair(graph, times)
                copies = replicated(graph, times)
                self.assertEqual(clique_number(copies), sum(times[vertex] for vertex in clique))
                self.assertEqual(chromatic_number(copies), sum(many for _, many in cover))


class HeaviestClique(unittest.TestCase):
    def test_beside_a_search(self):
        for graph in MANY_GRAPHS:
            for weights in helper.weights_for(graph[0], 10):
                told = heaviest_clique(graph, weights)
                self.assertIn(told, helper.cliques_of(graph))
                self.assertEqual(sum(weights[vertex] for vertex in told), helper.heaviest_of(graph, weights))
                self.assertEqual(heaviest_clique(weights=weights, graph=graph), told)
        self.assertEqual(heaviest_clique((0, ()), ()), ())


if __name__ == "__main__":
    unittest.main()
