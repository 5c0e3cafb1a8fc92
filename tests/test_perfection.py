import unittest

import helper
from helper import DOUBLED, FIVE, HOUSE
from perfectgraphs.perfection import is_minimal, is_perfect, lacking, minimal_lots, thin

MANY_GRAPHS = (
    helper.small_graphs() + helper.all_graphs(5)[::5] + helper.extreme_graphs()[:16] + helper.even_rounds()
    + helper.odd_rounds_and_kin() + [HOUSE, FIVE, DOUBLED]
    + [graph for many, count in ((6, 40), (7, 40), (8, 12), (9, 4)) for graph in helper.scattered(many, count)]
)


class Session(unittest.TestCase):
    def test_answers(self):
        self.assertEqual(
            [is_perfect(HOUSE), is_perfect(FIVE), lacking(FIVE), thin(FIVE), is_minimal(FIVE), minimal_lots(DOUBLED),
             is_minimal(DOUBLED), lacking(HOUSE)],
            [True, False, (0, 1, 2, 3, 4), (0, 1, 2, 3, 4), True, ((0, 1, 2, 3, 4), (0, 1, 2, 3, 5)), False, None])


class Told:
    """What the definitions say of a graph, lot by lot."""

    def __init__(self, graph):
        self.lacking, self.thin = set(), set()
        for lot in helper.lots_of(graph):
            part = helper.induced_by(graph, lot)
            clique = helper.greatest_clique_of(part)
            if not helper.is_colourable(part, clique):
                self.lacking.add(lot)
            if len(lot) > clique * helper.greatest_stable_of(part):
                self.thin.add(lot)
        self.imperfect = [lot for lot in helper.lots_of(graph) if any(set(bad) <= set(lot) for bad in self.lacking)]
        self.minimal = tuple(sorted(
            lot for lot in self.imperfect if not any(set(less) < set(lot) for less in self.imperfect)))


class BesideTheDefinitions(unittest.TestCase):
    def test_many_graphs(self):
        for graph in MANY_GRAPHS:
            told = Told(graph)
            whole = tuple(range(graph[0]))
            self.assertIs(is_perfect(graph), not told.lacking, graph)
            self.assertIs(is_minimal(graph), told.minimal == (whole,) and whole in told.imperfect, graph)
            self.assertEqual(minimal_lots(graph), told.minimal, graph)
            for answer, bad in ((lacking(graph), told.lacking), (thin(graph), told.thin)):
                if answer is None:
                    self.assertEqual(bad, set(), graph)
                else:
                    self.assertIs(type(answer), tuple)
                    self.assertIn(answer, bad, graph)

    def test_beside_odd_holes_and_antiholes(self):
        for graph in MANY_GRAPHS + helper.scattered(9, 40) + helper.scattered(8, 60):
            rounds = helper.holes_of(graph) + helper.holes_of(helper.opposite(graph))
            lots = {tuple(sorted(hole)) for hole in rounds if len(hole) % 2}
            self.assertEqual(minimal_lots(graph), tuple(sorted(lots)), graph)
            self.assertIs(is_perfect(graph), not lots)
            self.assertIs(is_minimal(graph), lots == {tuple(range(graph[0]))})
            self.assertIs(is_perfect(helper.opposite(graph)), not lots)


class EdgesOfTheRange(unittest.TestCase):
    def test_no_vertex_and_one(self):
        for graph in ((0, ()), (1, ())):
            self.assertIs(is_perfect(graph), True)
            self.assertIsNone(lacking(graph))
            self.assertIsNone(thin(graph))
            self.assertIs(is_minimal(graph), False)
            self.assertEqual(minimal_lots(graph), ())

    def test_odd_holes_and_antiholes(self):
        for many in (5, 7, 9):
            for graph in (helper.round_of(many), helper.opposite(helper.round_of(many))):
                whole = tuple(range(many))
                self.assertIs(is_perfect(graph=graph), False)
                self.assertEqual(lacking(graph=graph), whole)
                self.assertEqual(thin(graph=graph), whole)
                self.assertIs(is_minimal(graph=graph), True)
                self.assertEqual(minimal_lots(graph=graph), (whole,))

    def test_a_copy_makes_it_no_longer_minimal(self):
        for adjacent in (True, False):
            graph = helper.copied(helper.round_of(7), 3, adjacent)
            self.assertIs(is_minimal(graph), False)
            self.assertEqual(minimal_lots(graph), ((0, 1, 2, 3, 4, 5, 6), (0, 1, 2, 4, 5, 6, 7)))

    def test_two_odd_holes_with_one_vertex_in_common(self):
        graph = helper.graph_with(9, [(0, 1), (1, 2), (2, 3), (3, 4), (0, 4), (0, 5), (5, 6), (6, 7), (7, 8), (0, 8)])
        self.assertEqual(minimal_lots(graph), ((0, 1, 2, 3, 4), (0, 5, 6, 7, 8)))

    def test_lots_are_told_ascending_as_tuples_not_by_size(self):
        # An odd hole of seven ahead of some of five: 0 .. 6 go round, 7 and 8 make rounds of five.
        graph = helper.graph_with(9, list(helper.round_of(7)[1]) + [(0, 7), (3, 7), (3, 8), (6, 8)])
        lots = minimal_lots(graph)
        self.assertEqual(lots, tuple(sorted(lots)))
        self.assertNotEqual([len(lot) for lot in lots], sorted(len(lot) for lot in lots))


if __name__ == "__main__":
    unittest.main()
