import unittest
from itertools import permutations, product

import helper
from helper import DOUBLED, FIVE, HOUSE
from perfectgraphs.holes import antiholes, holes, is_antihole, is_berge, is_hole, odd_one

MANY_GRAPHS = (
    helper.small_graphs() + helper.all_graphs(5) + helper.extreme_graphs() + helper.even_rounds()
    + helper.odd_rounds_and_kin() + [HOUSE, FIVE, DOUBLED]
    + [graph for many in (6, 7, 8, 9) for graph in helper.scattered(many, 60)]
)


class Session(unittest.TestCase):
    def test_answers(self):
        self.assertEqual(
            [holes(HOUSE), antiholes(HOUSE), holes(FIVE), antiholes(FIVE), is_hole(HOUSE, (0, 3, 2, 1)),
             is_antihole(FIVE, (0, 2, 4, 1, 3)), odd_one(HOUSE)],
            [((0, 1, 2, 3),), (), ((0, 1, 2, 3, 4),), ((0, 2, 4, 1, 3),), False, True, None])
        self.assertIs(is_berge(HOUSE), True)


class AllHoles(unittest.TestCase):
    def test_beside_a_walk_round_each_lot(self):
        for graph in MANY_GRAPHS:
            self.assertEqual(holes(graph), helper.holes_of(graph), graph)
            self.assertEqual(antiholes(graph), helper.holes_of(helper.opposite(graph)), graph)

    def test_beside_all_orders_of_each_lot(self):
        for graph in helper.scattered(6, 24) + helper.even_rounds()[:4] + [HOUSE, FIVE, DOUBLED]:
            self.assertEqual(holes(graph), helper.holes_by_orders(graph), graph)

    def test_rounds(self):
        for many in range(4, 10):
            told = (tuple(range(many)),)
            self.assertEqual(holes(graph=helper.round_of(many)), told)
            self.assertEqual(antiholes(graph=helper.opposite(helper.round_of(many))), told)
            # A hole of five alone has the vertices of an antihole.
            spanning = [hole for hole in antiholes(helper.round_of(many)) if len(hole) == many]
            self.assertEqual(len(spanning), 1 if many == 5 else 0)

    def test_many_holes(self):
        parts = helper.graph_with(9, [(one, other) for one in range(4) for other in range(4, 9)])
        self.assertEqual(len(holes(parts)), 60)
        self.assertEqual(antiholes(parts), ())
        thirds = helper.graph_with(9, [(one, other) for one, other in helper.all_pairs(9) if one % 3 != other % 3])
        self.assertEqual(holes(thirds), helper.holes_of(thirds))


class OddOnes(unittest.TestCase):
    def test_beside_the_walk(self):
        for graph in MANY_GRAPHS:
            odd_holes = [hole for hole in helper.holes_of(graph) if len(hole) % 2]
            odd_antiholes = [hole for hole in helper.holes_of(helper.opposite(graph)) if len(hole) % 2]
            told = odd_one(graph)
            self.assertIs(is_berge(graph), not odd_holes and not odd_antiholes, graph)
            if told is None:
                self.assertEqual(odd_holes + odd_antiholes, [])
            else:
                word, hole = told
                self.assertIs(type(told), tuple)
                self.assertIn(hole, {"hole": odd_holes, "antihole": odd_antiholes}[word], graph)

    def test_rounds(self):
        for many in range(3, 10):
            for graph in (helper.round_of(many), helper.opposite(helper.round_of(many))):
                self.assertIs(is_berge(graph=graph), many % 2 == 0 or many == 3)
        self.assertEqual(odd_one(graph=helper.round_of(7)), ("hole", (0, 1, 2, 3, 4, 5, 6)))
        self.assertEqual(odd_one(helper.opposite(helper.round_of(7))), ("antihole", (0, 1, 2, 3, 4, 5, 6)))
        self.assertEqual(odd_one(helper.opposite(helper.round_of(9))), ("antihole", tuple(range(9))))


class IsHole(unittest.TestCase):
    def test_each_tuple_of_vertices(self):
        for graph in [HOUSE, FIVE, helper.opposite(HOUSE), helper.round_of(4), helper.opposite(helper.round_of(4))]:
            told, told_other = helper.holes_of(graph), helper.holes_of(helper.opposite(graph))
            for size in range(6):
                for value in product(range(-1, 6), repeat=size):
                    self.assertIs(is_hole(graph, value), value in told)
                    self.assertIs(is_antihole(graph, value), value in told_other)

    def test_holes_turned_about_or_begun_elsewhere(self):
        for many in range(4, 8):
            graph = helper.renamed_by(helper.round_of(many), [(at * 3 + 1) % many for at in range(many)] if many % 3
                                      else [many - 1 - at for at in range(many)])
            told = helper.holes_of(graph)
            for value in permutations(range(many)):
                self.assertIs(is_hole(graph, value), value in told)
                self.assertIs(is_antihole(helper.opposite(graph), value), value in told)

    def test_of_eight_and_nine(self):
        for many in (8, 9):
            ring = tuple(range(many))
            graph = helper.round_of(many)
            for value in (ring, ring[::-1], ring[1:] + ring[:1], ring[:1] + ring[:0:-1], ring[:-1], ring + (0,)):
                self.assertIs(is_hole(graph, value), value == ring)
                self.assertIs(is_antihole(helper.opposite(graph), value), value == ring)
                self.assertIs(is_hole(helper.opposite(graph), value), False)

    def test_three_vertices_are_none(self):
        three = helper.round_of(3)
        for value in permutations(range(3)):
            self.assertIs(is_hole(three, value), False)
            self.assertIs(is_antihole(helper.opposite(three), value), False)

    def test_a_chord_or_a_gap(self):
        ring = (0, 1, 2, 3, 4, 5)
        for pair in helper.all_pairs(6):
            graph = helper.graph_with(6, set(helper.round_of(6)[1]) ^ {pair})
            self.assertIs(is_hole(graph, ring), False)
            self.assertIs(is_antihole(helper.opposite(graph), ring), False)
        two_rounds = helper.graph_with(8, [(0, 1), (1, 2), (2, 3), (0, 3), (4, 5), (5, 6), (6, 7), (4, 7)])
        self.assertIs(is_hole(two_rounds, (0, 1, 2, 3, 4, 5, 6, 7)), False)
        self.assertIs(is_hole(two_rounds, (4, 5, 6, 7)), True)

    def test_values_of_any_kind(self):
        square = helper.round_of(4)
        strange = helper.ANY_VALUES + [
            [0, 1, 2, 3], (0, True, 2, 3), (False, 1, 2, 3), (0, 1, 2, "3"), (0, 1, 2, None), (0, 1, 2, [3]),
            (0, 1, 2, (3,)), ((0, 1), (1, 2), (2, 3), (0, 3)), "0123", ("0", "1", "2", "3"), range(4), {0, 1, 2, 3},
            (0, 1, 2, 10 ** 39), (0, 1, 2, -1), (0, 1, 2, 4), (0, 1, 2, 3, 3), (4, 5, 6, 7),
            (-4, -3, -2, -1), (0, 1, 2, 3, 0, 1, 2, 3), ((0, 1, 2, 3),), (0, 1, 2, 3, 4) * 300,
            (0, 1, 2, helper.Odd()), (helper.Odd(),) * 4, (0, 1, 2, set()), (1j, 1, 2, 3), (None,) * 4,
        ]
        for value in strange:
            self.assertIs(is_hole(square, value), False, repr(value))
            self.assertIs(is_antihole(helper.opposite(square), value), False, repr(value))
            self.assertIs(is_hole((0, ()), value), False)
        self.assertIs(is_hole(value=(0, 1, 2, 3), graph=square), True)
        self.assertIs(is_antihole(value=(0, 1, 2, 3), graph=helper.opposite(square)), True)


if __name__ == "__main__":
    unittest.main()
