import unittest
from itertools import permutations

import helper
from helper import DOUBLED, FIVE, HOUSE, against_told, all_orientations, cliques_against, kernels_told
from helper import some_orientations
from perfectgraphs.errors import InvalidHole
from perfectgraphs.orientations import (
    against, clique_against, is_clique_acyclic, is_kernel, is_orientation, kernels, orientation_without_kernel,
)

ROUND = ((0, 1), (1, 2), (2, 3), (3, 4), (4, 0))
GREATER = (
    helper.even_rounds() + helper.odd_rounds_and_kin()[::5] + helper.extreme_graphs()[8:] + [HOUSE, FIVE, DOUBLED]
    + [graph for many in (5, 6, 7, 8, 9) for graph in helper.scattered(many, 5)]
)


def lead_back(graph, arcs):
    """Whether arcs lead back anywhere to where one begins: (at all, in an odd number of steps)."""
    anywhere = odd = False
    for start in range(graph[0]):
        reached, ahead = set(), [(start, 0)]
        while ahead:
            vertex, steps = ahead.pop()
            for one, two in arcs:
                if one == vertex and (two, 1 - steps) not in reached:
                    reached.add((two, 1 - steps))
                    ahead.append((two, 1 - steps))
        anywhere = anywhere or (start, 0) in reached or (start, 1) in reached
        odd = odd or (start, 1) in reached
    return anywhere, odd


class Session(unittest.TestCase):
    def test_answers(self):
        self.assertEqual(
            [is_orientation(FIVE, ROUND), is_orientation(FIVE, ROUND[1:]), is_clique_acyclic(FIVE, ROUND),
             kernels(FIVE, ROUND), against(FIVE, (0, 1, 2, 3, 4)) == ROUND],
            [True, False, True, (), True])
        self.assertEqual(
            [kernels(FIVE, ((0, 1), (1, 0)) + ROUND[1:]), is_kernel(FIVE, ROUND, (0, 2)),
             orientation_without_kernel(HOUSE)],
            [((0, 3),), False, None])
        upwards = ((0, 1), (0, 3), (1, 2), (1, 4), (2, 3), (2, 4))
        self.assertEqual(
            [clique_against(HOUSE, ((0, 1), (0, 3), (1, 2), (2, 3), (2, 4), (4, 1))), is_clique_acyclic(HOUSE, upwards)],
            [(1, 2, 4), True])
        self.assertEqual(
            [against(FIVE, (0, 2, 4, 1, 3)), kernels(HOUSE, upwards)],
            [((0, 4), (1, 0), (2, 1), (3, 2), (4, 3)), ((3, 4),)])


class Orientations(unittest.TestCase):
    def test_all_of_small_graphs(self):
        for graph in [graph for many in range(4) for graph in helper.all_graphs(many)] + [helper.round_of(4)]:
            told = set(all_orientations(graph))
            arcs = [(one, two) for one in range(graph[0]) for two in range(graph[0])]
            for value in told:
                self.assertIs(is_orientation(graph, value), True)
            if graph[0] < 4:
                for choice in range(2 ** len(arcs)):
                    value = tuple(arc for at, arc in enumerate(arcs) if choice >> at & 1)
                    self.assertIs(is_orientation(graph, value), value in told, (graph, value))

    def test_bent_values(self):
        for graph, right in ((FIVE, ROUND), (HOUSE, ((0, 1), (1, 0), (1, 2), (1, 4), (2, 4), (3, 0), (3, 2), (4, 2)))):
            told = all_orientations(graph)
            self.assertIs(is_orientation(graph, right), True)
            for value in helper.bent(right):
                self.assertIs(is_orientation(graph, value), helper.is_among(value, told), value)

    def test_other_pairs_and_orders(self):
        for graph in GREATER:
            right = some_orientations(graph, 9)[8]
            self.assertIs(is_orientation(graph, right), True)
            if len(right) > 1:
                self.assertIs(is_orientation(graph, right[::-1]), False)
                self.assertIs(is_orientation(graph, right + right[-1:]), False)
            for one, two in helper.opposite(graph)[1][:3]:
                self.assertIs(is_orientation(graph, tuple(sorted(right + ((one, two),)))), False)
            for vertex in range(graph[0]):
                self.assertIs(is_orientation(graph, tuple(sorted(right + ((vertex, vertex),)))), False)
            for one, two in graph[1][:4]:
                less = tuple(arc for arc in right if set(arc) != {one, two})
                self.assertIs(is_orientation(graph, less), False)

    def test_values_of_any_kind(self):
        strange = helper.ANY_VALUES + [
            list(ROUND), ([0, 1],) + ROUND[1:], ((False, 1),) + ROUND[1:], ((0, True),) + ROUND[1:], ("01",) + ROUND[1:],
            ((0, "1"),) + ROUND[1:], ((0, None),) + ROUND[1:], ((0, 1, 1),) + ROUND[1:], ((0,),) + ROUND[1:],
            ((0, (1,)),) + ROUND[1:], (helper.Odd(),) + ROUND[1:], ((0, helper.Odd()),) + ROUND[1:], (None,) * 5,
            ((0, -4),) + ROUND[1:], ((0, 10 ** 39),) + ROUND[1:], ROUND * 400, {(0, 1): 1}, ((0, 5),) + ROUND,
        ]
        for value in strange:
            self.assertIs(is_orientation(FIVE, value), False, repr(value))
            self.assertIs(is_orientation(value=value, graph=FIVE), False)
            self.assertIs(is_orientation((2, ()), value), helper.is_among(value, [()]), repr(value))
        self.assertIs(is_orientation((0, ()), ()), True)


class CliquesAgainst(unittest.TestCase):
    def check(self, graph, arcs):
        told, answer = cliques_against(graph, arcs), clique_against(graph, arcs)
        self.assertIs(is_clique_acyclic(graph, arcs), not told, (graph, arcs))
        if told:
            self.assertIn(answer, told)
        else:
            self.assertIsNone(answer)

    def test_all_orientations_of_small_graphs(self):
        for graph in [graph for many in range(4) for graph in helper.all_graphs(many)]:
            for arcs in all_orientations(graph):
                self.check(graph, arcs)
        for arcs in all_orientations(helper.opposite((4, ()))):
            self.check(helper.opposite((4, ())), arcs)

    def test_beside_a_look_at_all_cliques(self):
        for graph in GREATER:
            for arcs in some_orientations(graph, 12):
                self.check(graph, arcs)
                self.assertEqual(clique_against(orientation=arcs, graph=graph), clique_against(graph, arcs))
                self.assertIs(is_clique_acyclic(orientation=arcs, graph=graph), is_clique_acyclic(graph, arcs))

    def test_both_ways_for_all(self):
        for graph in GREATER:
            arcs = tuple(sorted(graph[1] + tuple((two, one) for one, two in graph[1])))
            self.assertIs(is_clique_acyclic(graph, arcs), True)
            self.assertEqual(kernels(graph, arcs), helper.maximal_of(helper.stable_sets_of(graph)))


class Kernels(unittest.TestCase):
    def check(self, graph, arcs):
        told = kernels_told(graph, arcs)
        self.assertEqual(kernels(graph, arcs), told, (graph, arcs))
        for lot in helper.lots_of(graph):
            self.assertIs(is_kernel(graph, arcs, lot), lot in told, (graph, arcs, lot))
        anywhere, odd = lead_back(graph, arcs)
        if not anywhere:
            self.assertEqual(len(told), 1)
        if not odd:
            self.assertGreaterEqual(len(told), 1)
        return anywhere, odd

    def test_all_orientations_of_small_graphs(self):
        seen = set()
        for graph in [graph for many in range(4) for graph in helper.all_graphs(many)]:
            for arcs in all_orientations(graph):
                seen.add(self.check(graph, arcs))
        for arcs in all_orientations(helper.round_of(4)) + all_orientations(helper.round_of(5))[::3]:
            seen.add(self.check(helper.round_of(4) if max(map(max, arcs)) == 3 else helper.round_of(5), arcs))
        self.assertEqual(seen, {(False, False), (True, False), (True, True)})

    def test_beside_a_look_at_all_lots(self):
        for graph in GREATER:
            for arcs in some_orientations(graph, 6):
                self.check(graph, arcs)

    def test_each_clique_acyclic_one_of_a_perfect_graph_has_one(self):
        for graph in helper.all_graphs(4)[::5] + [helper.round_of(4), HOUSE]:
            for arcs in all_orientations(graph):
                if is_clique_acyclic(graph, arcs):
                    self.assertGreaterEqual(len(kernels(graph, arcs)), 1)
        for graph in GREATER:
            if not helper.odd_rounds_of(graph):
                for arcs in some_orientations(graph, 12):
                    if is_clique_acyclic(graph, arcs):
                        self.check_within_lots(graph, arcs)

    def check_within_lots(self, graph, arcs):
        for lot in helper.lots_of(graph)[::23]:
            places = {vertex: at for at, vertex in enumerate(lot)}
            within = tuple((places[one], places[two]) for one, two in arcs if one in places and two in places)
            self.assertGreaterEqual(len(kernels(helper.induced_by(graph, lot), within)), 1)

    def test_by_name_and_without_vertices(self):
        self.assertEqual(kernels(orientation=ROUND, graph=FIVE), ())
        self.assertIs(is_kernel(lot=(0, 3), orientation=((0, 1), (1, 0)) + ROUND[1:], graph=FIVE), True)
        none = (0, ())
        self.assertEqual([kernels(none, ()), is_kernel(none, (), ()), clique_against(none, ()),
                          is_clique_acyclic(none, ()), orientation_without_kernel(none)],
                         [((),), True, None, True, None])
        self.assertEqual(kernels((3, ()), ()), ((0, 1, 2),))


class Against(unittest.TestCase):
    GRAPHS = helper.odd_rounds_and_kin() + [DOUBLED] + [
        graph for many in (6, 7, 8, 9) for graph in helper.scattered(many, 30)]

    def test_each_odd_hole_and_antihole(self):
        lengths = set()
        for graph in self.GRAPHS:
            for word, hole in helper.odd_rounds_of(graph)[:6]:
                told = against(graph, hole)
                self.assertEqual(told, against_told(graph, hole), (graph, hole))
                self.assertEqual(against(hole=hole, graph=graph), told)
                self.assertIs(is_orientation(graph, told), True)
                self.assertEqual(cliques_against(graph, told), [])
                self.assertEqual(kernels_told(graph, told), ())
                self.assertIs(is_clique_acyclic(graph, told), True)
                self.assertEqual(kernels(graph, told), ())
                lengths.add((word, len(hole), graph[0] > len(hole)))
        both = [(word, many) for word in ("hole", "antihole") for many in (5, 7, 9)]
        self.assertEqual(lengths, {(word, many, more) for word, many in both for more in (False, True)
                                   if not (many == 9 and more)})

    def test_other_tuples_are_refused(self):
        for graph in (FIVE, DOUBLED):
            right = [hole for _, hole in helper.odd_rounds_of(graph)]
            for hole in right:
                values = list(permutations(hole)) + helper.bent(hole)
                for value in values + [hole[at:] + hole[:at] for at in range(5)]:
                    if not helper.is_among(value, right):
                        with self.assertRaises(InvalidHole) as caught:
                            against(graph, value)
                        self.assertIs(caught.exception.given, value)

    def test_even_ones_are_refused(self):
        for graph in helper.even_rounds():
            whole = tuple(range(graph[0]))
            for value in (whole, whole[::-1], whole[:-1], whole[:3]):
                self.assertRaises(InvalidHole, against, graph, value)
        self.assertRaises(InvalidHole, against, helper.opposite((3, ())), (0, 1, 2))
        self.assertRaises(InvalidHole, against, HOUSE, (0, 1, 2, 3))

    def test_none_just_for_perfect_graphs(self):
        for graph in self.GRAPHS + GREATER:
            told = orientation_without_kernel(graph)
            if helper.odd_rounds_of(graph):
                self.assertIs(is_orientation(graph, told), True)
                self.assertEqual(cliques_against(graph, told), [])
                self.assertEqual(kernels_told(graph, told), ())
                self.assertEqual(orientation_without_kernel(graph=graph), told)
            else:
                self.assertIsNone(told)


if __name__ == "__main__":
    unittest.main()
