import unittest
from fractions import Fraction

import helper
from helper import DOUBLED, FIVE, HOUSE, is_fraction
from helper import as_told as told, is_fractional_clique_told as is_clique_told
from helper import is_fractional_cover_told as is_cover_told
from perfectgraphs.fractions import (
    fractional_clique, fractional_cover, fractional_number, is_fractional_clique, is_fractional_cover,
)

MANY_GRAPHS = (
    helper.all_graphs(4)[::3] + helper.extreme_graphs() + helper.even_rounds() + helper.odd_rounds_and_kin()[::3]
    + [HOUSE, FIVE, DOUBLED] + [graph for many in (5, 6, 7, 8, 9) for graph in helper.scattered(many, 10)]
)
ONES = (1, 1, 1, 1, 1)
HALF = ((1, 2),) * 5


class Session(unittest.TestCase):
    def test_answers(self):
        self.assertEqual([fractional_number(FIVE, ONES), fractional_number(HOUSE, (4, 1, 1, 5, 3))], [(5, 2), (9, 1)])
        self.assertEqual(
            [is_fractional_clique(FIVE, HALF), is_fractional_cover(FIVE, ONES, fractional_cover(FIVE, ONES))],
            [True, True])


class Numbers(unittest.TestCase):
    def test_cliques_and_covers_that_meet(self):
        for graph in MANY_GRAPHS:
            for weights in helper.weights_for(graph[0], 8):
                number = fractional_number(graph, weights)
                clique, cover = fractional_clique(graph, weights), fractional_cover(graph, weights)
                self.assertTrue(is_fraction(number))
                self.assertTrue(is_clique_told(graph, clique), (graph, weights, clique))
                self.assertTrue(is_cover_told(graph, weights, cover), (graph, weights, cover))
                worth = sum(Fraction(*share) * weight for share, weight in zip(clique, weights))
                self.assertEqual(told(worth), number)
                self.assertEqual(told(sum(Fraction(*times) for _, times in cover)), number)
                self.assertIs(is_fractional_clique(graph, clique), True)
                self.assertIs(is_fractional_cover(graph, weights, cover), True)

    def test_beside_the_heaviest_clique(self):
        for graph in MANY_GRAPHS:
            is_perfect = not helper.odd_rounds_of(graph)
            for weights in helper.weights_for(graph[0], 8):
                number = Fraction(*fractional_number(weights=weights, graph=graph))
                heaviest = helper.heaviest_of(graph, weights)
                self.assertGreaterEqual(number, heaviest)
                self.assertLessEqual(number, sum(weights))
                if is_perfect:
                    self.assertEqual(number, heaviest)

    def test_on_odd_holes_and_antiholes(self):
        for many in (5, 7, 9):
            graph = helper.round_of(many)
            self.assertEqual(fractional_number(graph, (1,) * many), (many, many // 2))
            self.assertEqual(fractional_number(helper.opposite(graph), (1,) * many), (many, 2))
        for graph in helper.odd_rounds_and_kin():
            for word, hole in helper.odd_rounds_of(graph)[:2]:
                weights = tuple(int(vertex in hole) for vertex in range(graph[0]))
                parts = len(hole) // 2 if word == "hole" else 2
                self.assertEqual(fractional_number(graph, weights), (len(hole), parts))
                self.assertGreater(Fraction(len(hole), parts), helper.heaviest_of(graph, weights))

    def test_times_a_number_and_added(self):
        for graph in MANY_GRAPHS[::4]:
            rows = helper.weights_for(graph[0], 8)
            numbers = [Fraction(*fractional_number(graph, weights)) for weights in rows]
            for weights, number in zip(rows, numbers):
                if max(weights, default=0) <= 1000:
                    for factor in (0, 1, 2, 7, 1000):
                        scaled = tuple(weight * factor for weight in weights)
                        self.assertEqual(fractional_number(graph, scaled), told(number * factor))
                for other, more in zip(rows, numbers):
                    both = tuple(one + two for one, two in zip(weights, other))
                    if max(both, default=0) <= 1000000:
                        self.assertLessEqual(Fraction(*fractional_number(graph, both)), number + more)

    def test_without_vertices_and_without_weight(self):
        none = (0, ())
        self.assertEqual([fractional_number(none, ()), fractional_clique(none, ()), fractional_cover(none, ())],
                         [(0, 1), (), ()])
        for graph in (FIVE, HOUSE, (9, ()), helper.opposite((9, ()))):
            weights = (0,) * graph[0]
            self.assertEqual(fractional_number(graph, weights), (0, 1))
            self.assertEqual(fractional_cover(graph, weights), ())
            self.assertTrue(is_clique_told(graph, fractional_clique(weights=weights, graph=graph)))
            self.assertEqual(fractional_cover(weights=weights, graph=graph), ())


class FractionalCliques(unittest.TestCase):
    def check(self, graph, value, is_one):
        self.assertIs(is_fractional_clique(graph, value), is_one, (graph, value))
        self.assertIs(is_clique_told(graph, value), is_one, (graph, value))

    def test_just_at_the_bound_and_a_little_above(self):
        self.check(FIVE, HALF, True)
        little = 10 ** 39
        for at in range(5):
            for share, is_one in (((0, 1), True), ((1, 3), True), (told(Fraction(1, 2) + Fraction(1, little)), False),
                                  (told(Fraction(1, 2) - Fraction(1, little)), True), ((2, 4), False), ((1, 1), False)):
                self.check(FIVE, HALF[:at] + (share,) + HALF[at + 1:], is_one)
        pairs = ((1, 3), (1, 6), (1, 3), (1, 6), (2, 3))
        self.check(FIVE, pairs, True)
        self.check(FIVE, ((1, 3), (1, 6), (1, 3), (1, 6), (667, 1000)), False)
        self.check(FIVE, ((1, 3), (1, 6), (1, 3), (1, 6), (666, 1001)), True)

    def test_of_cliques_and_of_other_lots(self):
        for graph in MANY_GRAPHS[::3]:
            cliques = set(helper.cliques_of(graph))
            for lot in helper.lots_of(graph)[::3]:
                shares = tuple((int(vertex in lot), 1) for vertex in range(graph[0]))
                self.assertIs(is_fractional_clique(graph, shares), lot in cliques, (graph, lot))

    def test_forms_of_fractions(self):
        for share in ((0, 1), (1, 1), (1, 2), (3, 7), (10 ** 39, 10 ** 39 + 1)):
            self.check((1, ()), (share,), True)
        for share in ((0, 2), (2, 2), (2, 4), (-1, 2), (1, -2), (-1, -2), (0, -1), (0, 0), (1, 0), (3, 2), (True, 1),
                      (0, True), (False, 1), (1,), (1, 2, 3), 0, 1, "1/2", [1, 2], None, (None, 1), ("1", "2"),
                      ((1,), 2), (1, (2,)), (helper.Odd(), 1), (0, helper.Odd())):
            self.check((1, ()), (share,), False)

    def test_bent_values_and_values_of_any_kind(self):
        for value in helper.bent(HALF) + helper.bent(((1, 2), (1, 3), (1, 2), (0, 1), (1, 4))):
            self.assertIs(is_fractional_clique(FIVE, value), is_clique_told(FIVE, value), value)
        for graph in (FIVE, (0, ()), (1, ())):
            for value in helper.ANY_VALUES:
                is_one = helper.is_among(value, [()]) and graph[0] == 0
                self.check(graph, value, is_one)
        self.assertIs(is_fractional_clique(value=HALF, graph=FIVE), True)


class FractionalCovers(unittest.TestCase):
    RIGHT = tuple((lot, (1, 2)) for lot in ((0, 2), (0, 3), (1, 3), (1, 4), (2, 4)))

    def check(self, graph, weights, value, is_one):
        self.assertIs(is_fractional_cover(graph, weights, value), is_one, (graph, weights, value))
        self.assertIs(is_cover_told(graph, weights, value), is_one, (graph, weights, value))

    def test_with_one_thing_otherwise(self):
        right, little = self.RIGHT, Fraction(1, 10 ** 39)
        self.check(FIVE, ONES, right, True)
        for at in range(5):
            ahead, (lot, _), behind = right[:at], right[at], right[at + 1:]
            self.check(FIVE, ONES, ahead + behind, False)
            self.check(FIVE, ONES, ahead + ((lot, (1, 2)), (lot, (1, 2))) + behind, False)
            self.check(FIVE, ONES, ahead + ((lot, (1, 3)), (lot, (1, 2))) + behind, False)
            for times, is_one in (((1, 1), True), ((2, 4), False), (told(Fraction(1, 2) - little), False), ((0, 1), False),
                                  (told(Fraction(1, 2) + little), True), (1, False), ((-1, 2), False), ((1, -2), False)):
                self.check(FIVE, ONES, ahead + ((lot, times),) + behind, is_one)
        for wrong in (right[::-1], right[1:] + right[:1], (((), (1, 2)),) + right, list(right), right + ((),),
                      (((0, 1), (1, 2)),) + right, (((0,), (0, 1)),) + right):
            self.check(FIVE, ONES, wrong, False)
        self.check(FIVE, ONES, (((0,), (1, 7)),) + right, True)
        self.check(FIVE, (0, 0, 0, 0, 0), right, True)
        self.check(FIVE, (2, 1, 1, 1, 1), right, False)

    def test_vertex_by_vertex(self):
        for graph in MANY_GRAPHS[::3]:
            for weights in helper.weights_for(graph[0], 6):
                cover = tuple(((vertex,), (weight, 1)) for vertex, weight in enumerate(weights) if weight)
                self.check(graph, weights, cover, True)
                for at, (lot, (weight, _)) in enumerate(cover):
                    for times, is_one in (((7 * weight - 1, 7), False), ((7 * weight + 1, 7), True)):
                        self.check(graph, weights, cover[:at] + ((lot, times),) + cover[at + 1:], is_one)

    def test_sums_of_unlike_fractions(self):
        # Just 1 over each vertex, made of three parts.
        parts = ((1, 2), (1, 3), (1, 6))
        cover = (((0,), (1, 2)), ((0, 1), (1, 3)), ((0, 1, 2), (1, 6)), ((1,), (1, 2)), ((2,), (5, 6)))
        self.assertEqual(sum(Fraction(*part) for part in parts), 1)
        self.check((3, ()), (1, 1, 1), cover, True)
        for at in range(5):
            lot, (n, m) = cover[at]
            self.check((3, ()), (1, 1, 1), cover[:at] + ((lot, (100 * n - 1, 100 * m)),) + cover[at + 1:], False)

    def test_bent_values_and_values_of_any_kind(self):
        for value in helper.bent(self.RIGHT):
            self.assertIs(is_fractional_cover(FIVE, ONES, value), is_cover_told(FIVE, ONES, value), value)
        strange = helper.ANY_VALUES + [
            (((0, 2), 1),), (((0, 2), "1"),), (((0, 2), None),), (((0, 2), [1, 2]),), (([0, 2], (1, 2)),), (((0,), (1,)),),
            (((0,), (1, 2, 3)),), (((0,), (helper.Odd(), 1)),), ((helper.Odd(), (1, 2)),), (((0,), helper.Odd()),),
            (((0,), (1, 2)),) * 2000, (((True,), (1, 2)),), (((0,), (True, 1)),), ((((0,),), (1, 2)),),
        ]
        for graph in (FIVE, (0, ())):
            for value in strange:
                is_one = helper.is_among(value, [()])
                self.check(graph, (0,) * graph[0], value, is_one)
        self.assertIs(is_fractional_cover(value=self.RIGHT, weights=ONES, graph=FIVE), True)


if __name__ == "__main__":
    unittest.main()
