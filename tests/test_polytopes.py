import unittest
from fractions import Fraction
from itertools import product

import helper
from helper import DOUBLED, FIVE, HOUSE, corners_told, is_corner_told, is_in_told, on
from helper import as_told as told
from perfectgraphs.errors import TooMany
from perfectgraphs.perfection import is_perfect
from perfectgraphs.polytopes import corners, fractional_corner, is_corner, is_in

HALF = ((1, 2),) * 5
UP_TO_SIX = (
    helper.small_graphs()[::4] + helper.all_graphs(5)[::100] + helper.scattered(6, 6)
    + [HOUSE, FIVE, DOUBLED, helper.opposite(DOUBLED), helper.round_of(6), helper.opposite(helper.round_of(6))]
    # In this one six cliques tell a corner that has shares 0 all the same.
    + [(6, ((0, 3), (0, 4), (0, 5), (1, 2), (1, 3), (1, 5), (2, 3), (2, 4)))]
    + [(6, FIVE[1]), helper.graph_with(6, list(FIVE[1]) + [(at, 5) for at in range(5)])]
)


class Session(unittest.TestCase):
    def test_answers(self):
        self.assertEqual(
            [is_corner(FIVE, HALF), is_in(HOUSE, HALF), is_corner(HOUSE, on(HOUSE, (0,), (1, 2))),
             fractional_corner(HOUSE), fractional_corner(FIVE)],
            [True, False, False, None, HALF])


class Corners(unittest.TestCase):
    def test_beside_all_choices_of_equations(self):
        for graph in UP_TO_SIX:
            self.assertEqual(corners(graph), corners_told(graph), graph)

    def test_the_whole_ones_are_the_stable_sets(self):
        for graph in UP_TO_SIX + helper.all_graphs(5)[::7] + helper.scattered(6, 30):
            rows = corners(graph=graph)
            self.assertIs(type(rows), tuple)
            whole = {row for row in rows if set(row) <= {(0, 1), (1, 1)}}
            self.assertEqual(whole, {on(graph, lot) for lot in helper.stable_sets_of(graph)})
            numbers = [[Fraction(*share) for share in row] for row in rows]
            self.assertTrue(all(one < two for one, two in zip(numbers, numbers[1:])), graph)
            self.assertIs(len(whole) == len(rows), is_perfect(graph))
            for row in rows:
                self.assertIs(is_corner(graph, row), True)

    def test_as_numbers_not_as_pairs(self):
        # As pairs (1, 1) would stand ahead of (1, 2).
        rows = corners(FIVE)
        self.assertEqual(len(rows), 12)
        self.assertLess(rows.index(HALF), rows.index(((1, 1), (0, 1), (0, 1), (0, 1), (0, 1))))
        self.assertEqual(rows[0], ((0, 1),) * 5)

    def test_seven_vertices_are_refused(self):
        for many in (7, 8, 9):
            for graph in ((many, ()), helper.round_of(many)):
                with self.assertRaises(TooMany) as caught:
                    corners(graph)
                self.assertEqual(vars(caught.exception), {})
        self.assertEqual(len(corners((6, ()))), 64)
        self.assertEqual(len(corners(helper.opposite((6, ())))), 7)

    def test_without_vertices(self):
        none = (0, ())
        self.assertEqual([corners(none), is_in(none, ()), is_corner(none, ()), fractional_corner(none)],
                         [((),), True, True, None])
        self.assertEqual(corners((1, ())), (((0, 1),), ((1, 1),)))


class InAndCorner(unittest.TestCase):
    def check(self, graph, shares):
        self.assertIs(is_in(graph, shares), is_in_told(graph, shares), (graph, shares))
        self.assertIs(is_corner(graph, shares), is_corner_told(graph, shares), (graph, shares))

    def test_each_of_some_shares(self):
        for graph in (HOUSE, FIVE, helper.round_of(4), (3, ()), helper.opposite((3, ())), (4, ((0, 1), (1, 2), (2, 3)))):
            for shares in product(((0, 1), (1, 2), (1, 1)), repeat=graph[0]):
                self.check(graph, shares)
        for shares in product(((0, 1), (1, 3), (1, 2), (2, 3), (1, 1), (3, 2)), repeat=3):
            self.check((3, ((0, 1), (1, 2))), shares)

    def test_stable_sets_cliques_halves_and_moved_ones(self):
        graphs = helper.odd_rounds_and_kin()[::6] + helper.extreme_graphs()[8:] + helper.scattered(9, 6) + [DOUBLED]
        little = Fraction(1, 10 ** 38)
        for graph in graphs:
            for lot in helper.lots_of(graph)[::17]:
                self.check(graph, on(graph, lot))
                self.check(graph, on(graph, lot, (1, 2)))
                self.check(graph, on(graph, lot, told(1 - little)))
                self.check(graph, on(graph, lot, told(Fraction(1, 2) + little)))
            for lot in helper.maximal_of(helper.stable_sets_of(graph))[:3]:
                self.assertIs(is_corner(graph, on(graph, lot)), True)
                for vertex in lot[:2]:
                    for share in (told(1 - little), told(1 + little), (1, 2), (2, 1)):
                        moved = on(graph, lot)[:vertex] + (share,) + on(graph, lot)[vertex + 1:]
                        self.check(graph, moved)
                        self.assertIs(is_corner(graph, moved), False)

    def test_by_name(self):
        self.assertIs(is_in(shares=HALF, graph=FIVE), True)
        self.assertIs(is_corner(shares=HALF, graph=FIVE), True)
        self.assertIs(is_in(shares=on(FIVE, (0, 1)), graph=FIVE), False)
        self.assertIs(is_corner(shares=on(FIVE, (0, 1)), graph=FIVE), False)


class FractionalCorner(unittest.TestCase):
    def test_none_just_for_perfect_graphs(self):
        graphs = UP_TO_SIX + helper.odd_rounds_and_kin()[::2] + helper.even_rounds() + helper.extreme_graphs()
        for graph in graphs + [graph for many in (7, 8, 9) for graph in helper.scattered(many, 20)]:
            shares = fractional_corner(graph)
            if helper.odd_rounds_of(graph):
                self.assertTrue(is_corner_told(graph, shares), (graph, shares))
                self.assertFalse(set(shares) <= {(0, 1), (1, 1)})
                self.assertIs(is_corner(graph, shares), True)
                self.assertEqual(fractional_corner(graph=graph), shares)
            else:
                self.assertIsNone(shares)

    def test_odd_holes_and_antiholes(self):
        for many in (5, 7, 9):
            graph = helper.round_of(many)
            self.assertIs(is_corner(graph, ((1, 2),) * many), True)
            self.assertIs(is_corner(helper.opposite(graph), (told(Fraction(2, many - 1)),) * many), True)
        for graph in helper.odd_rounds_and_kin()[::3]:
            for word, hole in helper.odd_rounds_of(graph)[:3]:
                share = (1, 2) if word == "hole" else told(Fraction(2, len(hole) - 1))
                self.assertIs(is_corner(graph, on(graph, hole, share)), True)


if __name__ == "__main__":
    unittest.main()
