import unittest
from itertools import combinations, product

import helper
from helper import SQUARE
from perfectgraphs.errors import InvalidMatching, Unfit
from perfectgraphs.matchings import (
    best_matching, better_of, is_preferences, is_stable_matching, orientation_of, stable_matchings,
)

PREFERENCES = (((0, 1), (3, 2)), ((2, 0), (1, 3)))
# Three stable matchings: each left vertex begins with another right one, each right one with what comes last.
THREES = (3, 3, tuple(product(range(3), repeat=2)))
ROUND = (((0, 1, 2), (4, 5, 3), (8, 6, 7)), ((3, 6, 0), (7, 1, 4), (2, 5, 8)))
MANY = [multigraph for multigraph in helper.greater_multigraphs(60) if len(multigraph[2]) > 1]


def cases():
    """(MULTIGRAPH, PREFERENCES): all of small ones, drawn ones of greater ones."""
    found = [(SQUARE, PREFERENCES), (THREES, ROUND)]
    found.extend((multigraph, told) for multigraph in helper.small_multigraphs()
                 for told in helper.all_preferences(multigraph))
    found.extend((multigraph, told) for multigraph in MANY for told in helper.preferences_for(multigraph, 4))
    found.extend((THREES, told) for told in helper.preferences_for(THREES, 60))
    return found


def are_told(multigraph, value):
    sides = helper.edges_at_of(multigraph)
    return (len(value) == 2 and [len(side) for side in value] == list(multigraph[:2])
            and [[sorted(row) for row in side] for side in value] == sides)


def place_at(row, matching):
    """Where the matching's edge stands in the row, behind its end if there is none."""
    return next((at for at, edge in enumerate(row) if edge in matching), len(row))


class Session(unittest.TestCase):
    def test_answers(self):
        self.assertEqual(
            [is_preferences(SQUARE, PREFERENCES), orientation_of(SQUARE, PREFERENCES),
             stable_matchings(SQUARE, PREFERENCES), best_matching(SQUARE, PREFERENCES),
             better_of(SQUARE, PREFERENCES, (1, 2), (0, 3))],
            [True, ((0, 2), (1, 0), (2, 3), (3, 1)), ((0, 3), (1, 2)), (0, 3), (0, 3)])


class Preferences(unittest.TestCase):
    def test_right_ones(self):
        for multigraph, preferences in cases():
            self.assertIs(is_preferences(multigraph, preferences), True, (multigraph, preferences))

    def test_bent_values(self):
        for multigraph, preferences in [(SQUARE, PREFERENCES)] + cases()[2::40]:
            for value in helper.bent(preferences):
                told = helper.is_right(lambda rows: are_told(multigraph, rows), value)
                self.assertIs(is_preferences(multigraph, value), told, (multigraph, value))

    def test_edges_twice_left_out_and_elsewhere(self):
        wrong = [
            (((0, 1), (3, 2)), ((2, 0), (1, 1))), (((0, 1), (3, 2)), ((2, 0), (1,))), (((0, 2), (3, 1)), ((2, 0), (1, 3))),
            (((0, 1), (3, 2)), ((2, 0, 0), (1, 3))), (((0, 1, 1), (3, 2)), ((2, 0), (1, 3))), (((0,), (3, 2, 1)), PREFERENCES[1]),
            (((3, 2), (0, 1)), ((2, 0), (1, 3))), (((0, 1), (3, 2)), ((1, 3), (2, 0))), PREFERENCES[::-1], PREFERENCES[0],
            (((0, 1), (3, 2), ()), ((2, 0), (1, 3))), (((0, 1), (3, 2)), ((2, 0), (1, 3), ())), (((0, 1),), ((2, 0), (1, 3))),
            (((0, 1), (3, 4)), ((2, 0), (1, 3))), (((0, 1), (3, -2)), ((2, 0), (1, 3))),
        ]
        for value in wrong:
            self.assertIs(is_preferences(SQUARE, value), False, value)

    def test_equal_edges_are_unlike(self):
        twice = (1, 1, ((0, 0), (0, 0)))
        for lefts, rights in product(product(range(2), repeat=2), repeat=2):
            told = set(lefts) == set(rights) == {0, 1}
            self.assertIs(is_preferences(twice, ((lefts,), (rights,))), told)

    def test_values_of_any_kind(self):
        strange = [
            list(PREFERENCES), ([(0, 1), (3, 2)], PREFERENCES[1]), (([0, 1], (3, 2)), PREFERENCES[1]), (PREFERENCES[0], None),
            (((False, 1), (3, 2)), PREFERENCES[1]), (((0, True), (3, 2)), PREFERENCES[1]), (PREFERENCES[0], (helper.Odd(),) * 2),
            (((0, "1"), (3, 2)), PREFERENCES[1]), (((0, None), (3, 2)), PREFERENCES[1]), (((0, helper.Odd()), (3, 2)), PREFERENCES[1]),
            (((0, (1,)), (3, 2)), PREFERENCES[1]), ("01", "23"), (("01", "32"), ("20", "13")), (PREFERENCES[0], ((2, 0), None)),
        ]
        for value in helper.ANY_VALUES + strange:
            self.assertIs(is_preferences(SQUARE, value), False, repr(value))
            self.assertIs(is_preferences(value=value, multigraph=(0, 0, ())), helper.is_among(value, [((), ())]))
        self.assertIs(is_preferences((2, 1, ()), (((), ()), ((),))), True)


class Orientations(unittest.TestCase):
    def test_beside_giving_way(self):
        for multigraph, preferences in cases():
            many = len(multigraph[2])
            arcs = orientation_of(multigraph, preferences)
            told = [(one, two) for one, two in product(range(many), repeat=2) if helper.gives_way(preferences, one, two)]
            self.assertEqual(arcs, tuple(sorted(told)), (multigraph, preferences))
            self.assertEqual(orientation_of(preferences=preferences, multigraph=multigraph), arcs)
            graph = helper.line_graph_of(multigraph)
            self.assertEqual({tuple(sorted(arc)) for arc in arcs}, set(graph[1]))

    def test_they_are_clique_acyclic(self):
        for multigraph, preferences in cases():
            arcs = set(orientation_of(multigraph, preferences))
            for lot in helper.cliques_of(helper.line_graph_of(multigraph))[1:]:
                best = [edge for edge in lot if all((other, edge) in arcs for other in lot if other != edge)]
                self.assertTrue(best, (multigraph, preferences, lot))


class StableMatchings(unittest.TestCase):
    def test_beside_a_look_at_all_matchings(self):
        numbers = set()
        for multigraph, preferences in cases():
            told = helper.stable_matchings_of(multigraph, preferences)
            self.assertEqual(stable_matchings(multigraph, preferences), told, (multigraph, preferences))
            self.assertEqual(stable_matchings(preferences=preferences, multigraph=multigraph), told)
            numbers.add(len(told))
        self.assertLessEqual({1, 2, 3}, numbers)
        self.assertNotIn(0, numbers)

    def test_each_matching_is_told(self):
        for multigraph, preferences in cases()[::3]:
            told = helper.stable_matchings_of(multigraph, preferences)
            for matching in helper.matchings_of(multigraph):
                self.assertIs(is_stable_matching(multigraph, preferences, matching), matching in told)
                self.assertIs(is_stable_matching(matching=matching, preferences=preferences, multigraph=multigraph),
                              matching in told)

    def test_what_is_no_matching_is_refused(self):
        for matching in [(0, 1), (0, 2), (1, 0), (0, 0), (3, 0), (4,), (0, 1, 2, 3), (0, 3, 3), (-1,), [0, 3], (True,)]:
            for call in (lambda: is_stable_matching(SQUARE, PREFERENCES, matching),
                         lambda: better_of(SQUARE, PREFERENCES, matching, (0, 1)),
                         lambda: better_of(SQUARE, PREFERENCES, (0,), matching)):
                with self.assertRaises(InvalidMatching) as caught:
                    call()
                self.assertIs(caught.exception.given, matching)

    def test_all_have_edges_at_the_same_vertices(self):
        for multigraph, preferences in cases():
            ends = [{(side, multigraph[2][edge][side]) for edge in matching for side in (0, 1)}
                    for matching in stable_matchings(multigraph, preferences)]
            self.assertTrue(all(told == ends[0] for told in ends))


class BestMatchings(unittest.TestCase):
    def test_no_stable_one_stands_ahead_for_a_left_vertex(self):
        for multigraph, preferences in cases():
            best = best_matching(multigraph, preferences)
            stable = helper.stable_matchings_of(multigraph, preferences)
            self.assertIn(best, stable)
            self.assertEqual(best_matching(preferences=preferences, multigraph=multigraph), best)
            for row in preferences[0]:
                self.assertEqual(place_at(row, best), min(place_at(row, other) for other in stable))

    def test_the_round_of_three(self):
        self.assertEqual(stable_matchings(THREES, ROUND), ((0, 4, 8), (1, 5, 6), (2, 3, 7)))
        self.assertEqual(best_matching(THREES, ROUND), (0, 4, 8))
        self.assertEqual(better_of(THREES, ROUND, (2, 3, 7), (1, 5, 6)), (1, 5, 6))

    def test_equal_edges(self):
        twice = (1, 1, ((0, 0), (0, 0)))
        self.assertEqual(stable_matchings(twice, (((0, 1),), ((1, 0),))), ((0,), (1,)))
        self.assertEqual(best_matching(twice, (((0, 1),), ((1, 0),))), (0,))
        self.assertEqual(best_matching(twice, (((1, 0),), ((0, 1),))), (1,))


class BetterOnes(unittest.TestCase):
    def test_of_all_pairs_either_way_round(self):
        unlike = 0
        for multigraph, preferences in cases():
            stable = helper.stable_matchings_of(multigraph, preferences)
            for one, other in product(stable, repeat=2):
                told = better_of(multigraph, preferences, one, other)
                self.assertIn(told, stable)
                self.assertEqual(better_of(other=other, one=one, preferences=preferences, multigraph=multigraph), told)
                for row in preferences[0]:
                    self.assertEqual(place_at(row, told), min(place_at(row, one), place_at(row, other)))
                unlike += told not in (one, other)
        # Some of two is better than both.
        self.assertGreater(unlike, 0)

    def test_what_is_not_stable_is_refused(self):
        for multigraph, preferences in [(SQUARE, PREFERENCES), (THREES, ROUND)] + cases()[::9]:
            stable = helper.stable_matchings_of(multigraph, preferences)
            for one, other in list(product(helper.matchings_of(multigraph)[:12] + list(stable), repeat=2)):
                wrong = [matching for matching in (one, other) if matching not in stable]
                if wrong:
                    with self.assertRaises(Unfit) as caught:
                        better_of(multigraph, preferences, one, other)
                    self.assertIs(caught.exception.given, wrong[0])


class Rows(unittest.TestCase):
    def test_two_squares_have_four_stable_matchings(self):
        twice = (4, 4, SQUARE[2] + tuple((one + 2, two + 2) for one, two in SQUARE[2]))
        preferences = tuple(side + tuple(tuple(edge + 4 for edge in row) for row in side) for side in PREFERENCES)
        stable = stable_matchings(twice, preferences)
        self.assertEqual(stable, ((0, 3, 4, 7), (0, 3, 5, 6), (1, 2, 4, 7), (1, 2, 5, 6)))
        self.assertEqual(better_of(twice, preferences, (0, 3, 5, 6), (1, 2, 4, 7)), (0, 3, 4, 7))
        for one, other in combinations(stable, 2):
            self.assertEqual(better_of(twice, preferences, one, other), better_of(twice, preferences, other, one))


if __name__ == "__main__":
    unittest.main()
