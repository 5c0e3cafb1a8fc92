"""Of each function: the first wrong argument in the order of the signature is told, whatever the others are."""

import unittest
from itertools import product

import helper
from helper import FIVE, HOUSE
from perfectgraphs import (
    certificates, changes, cliques, fractions, graphs, isomorphisms, lists, matchings, multigraphs, orientations, polytopes, substitution,
    weights,
)
from perfectgraphs.errors import (
    GraphError, InvalidChange, InvalidColours, InvalidCutset, InvalidGraph, InvalidHole, InvalidLists, InvalidLot,
    InvalidMatching, InvalidMultigraph, InvalidNumber, InvalidOrientation, InvalidPreferences, InvalidRenaming,
    InvalidShares, InvalidTimes, InvalidVertex, InvalidWeights, NoPair, TooMany, Unfit,
)


def but(right_ones, *more):
    """Values of any kind but those to the letter, and more of them."""
    return [value for value in helper.ANY_VALUES + list(more) if not helper.is_among(value, right_ones)]


# Each kind of parameter, for the house: the error, a right value, wrong ones.
GRAPH = (InvalidGraph, HOUSE, helper.NO_GRAPHS)
OTHER = (InvalidGraph, (3, ((0, 2),)), helper.NO_GRAPHS)
LOT = (InvalidLot, (1, 4), but(
    helper.lots_of(HOUSE), [0, 1], (1, 0), (2, 2), (0, 5), (-1, 3), (True, 2), (0, True), ("0",), (0, None), (0, (1,)),
    (0, 10 ** 39), tuple(range(6)), (0,) * 2000, (helper.Odd(),)))
VERTEX = (InvalidVertex, 2, but(range(5), -5, 6, "0", (1,), [1], 9))
TIMES = (InvalidTimes, (1, 0, 2, 0, 1), but(
    [], [1, 0, 2, 0, 1], (1, 0, 2, 0), (1, 0, 2, 0, 1, 1), (1, 0, 2, 0, -1), (1, 0, 2, 0, True), (False, 0, 2, 0, 1),
    (1, 0, 2, 0, "1"), (1, 0, 2, 0, None), ((1,), 0, 2, 0, 1), (-10 ** 39, 9, 9, 9, 9), (1,) * 2000, "10201",
    (helper.Odd(),) * 5))
MODULE = (InvalidLot, (0, 3), but(
    [], [0, 3], (3, 0), (0,), (0, 1), (0, 3, 3), (0, 1, 2, 3, 4), (False, 3), (0, "3"), (0, None), (0, 3, 5), (0, 10)))
RENAMING = (InvalidRenaming, (3, 2, 1, 0, 4), but(
    [], [3, 2, 1, 0, 4], (3, 2, 1, 0), (3, 2, 1, 0, 4, 5), (3, 2, 1, 0, 5), (3, 2, 1, 0, 0), (3, 2, True, 0, 4),
    (3, 2, 1, False, 4), (3, 2, 1, 0, "4"), (3, 2, 1, 0, None), (3, 2, 1, 0, -1), "32104", {3: 3}, (4,) * 2000,
    (helper.Odd(),) * 5))
WEIGHTS = (InvalidWeights, (4, 1, 1, 5, 3), but(
    [], [4, 1, 1, 5, 3], (4, 1, 1, 5), (4, 1, 1, 5, 3, 0), (4, 1, 1, 5, -1), (4, 1, 1, 5, 1000001), (10 ** 39, 0, 0, 0, 0),
    (4, 1, 1, 5, True), (False, 1, 1, 5, 3), (4, 1, 1, 5, "3"), (4, 1, 1, 5, None), (4, 1, 1, 5, (3, 1)), "41153",
    (4, 1, 1, 5, [3]), (0,) * 2000, (helper.Odd(),) * 5, {0: 4}, (4, 1, 1, -10 ** 39, 3)))
REST = ((0, 1), (1, 3), (0, 1), (1, 1))
SHARES = (InvalidShares, ((1, 2),) + REST, but(
    [], list(((1, 2),) + REST), REST, ((1, 2), (1, 2)) + REST, ((2, 4),) + REST, ((0, 2),) + REST, ((-1, 2),) + REST,
    ((1, -2),) + REST, ((1, 0),) + REST, ((0, 0),) + REST, ((0, -1),) + REST, ((True, 2),) + REST, ((1, True),) + REST,
    ((False, 1),) + REST, (1,) + REST, (0,) + REST, ([1, 2],) + REST, ((1,),) + REST, ((1, 2, 3),) + REST, (None,) + REST,
    ("1/2",) + REST, (("1", 2),) + REST, ((1, None),) + REST, (((1,), 2),) + REST, (helper.Odd(),) * 5, "00000",
    ((helper.Odd(), 2),) + REST, ((1, helper.Odd()),) + REST, ((2, 2),) + REST, REST + ((10, 10 ** 39),), REST * 500))
ARCS = ((0, 3), (1, 0), (1, 2), (2, 3), (2, 4), (4, 1))
ORIENTATION = (InvalidOrientation, ARCS, but(
    [], list(ARCS), ARCS[::-1], ARCS[1:], ARCS[:-1], ((0, 2),) + ARCS, ARCS + ((4, 4),), ((0, 0),) + ARCS, ARCS + ARCS,
    ARCS[:1] + ARCS, ((0, 5),) + ARCS, ((-1, 0),) + ARCS, ARCS[:-1] + ((4, True),), ((False, 3),) + ARCS[1:],
    ARCS[:-1] + ([4, 1],), ARCS[:-1] + ((4,),), ARCS[:-1] + ((4, 1, 1),), ARCS[:-1] + ("41",), ARCS[:-1] + (None,),
    ARCS[:-1] + ((4, None),), ARCS[:-1] + ((4, (1,)),), ARCS[:-1] + (helper.Odd(),), (helper.Odd(),) * 6, {ARCS: ARCS},
    ARCS[:-1] + ((4, helper.Odd()),), ARCS + ((4, 10 ** 39),), HOUSE, ARCS * 300))
HOLE = (InvalidHole, (0, 1, 2, 3, 4), but(
    [], [0, 1, 2, 3, 4], (0, 4, 3, 2, 1), (1, 2, 3, 4, 0), (0, 3, 1, 4, 2), (0, 1, 2, 3), (0, 1, 2, 3, 4, 4), (0, 1, 2, 4, 3),
    (False, 1, 2, 3, 4), (0, True, 2, 3, 4), (0, 1, 2, 3, "4"), (0, 1, 2, 3, None), (0, 1, 2, 3, [4]), (0, 1, 2, 3, 5),
    (0, 1, 2), "01234", ("hole", (0, 1, 2, 3, 4)), (helper.Odd(),) * 5, (0, 1, 2, 3, -1), range(5), (0, 1, 2, 3, 4) * 400))

MULTIGRAPH = (InvalidMultigraph, helper.SQUARE, helper.NO_MULTIGRAPHS)
COLOURS = (InvalidColours, (0, 1, 1, 0), but(
    [], [0, 1, 1, 0], (0, 1, 1), (0, 1, 1, 0, 0), (0, 1, 1, 1), (0, 0, 1, 1), (0, 2, 2, 0), (0, 1, 2, 0), (0, -1, -1, 0),
    (False, 1, 1, 0), (0, True, 1, 0), (0, 1, 1, "0"), (0, 1, 1, None), (0, 1, 1, (0,)), "0110", (helper.Odd(),) * 4,
    (0, 1, 1, helper.Odd()), (0, 1, 10 ** 39, 0), (0, 1, 1, 0) * 500, {0: 1}))
PREFERENCES = (InvalidPreferences, (((0, 1), (3, 2)), ((2, 0), (1, 3))), but(
    [], ((0, 1), (3, 2)), (((0, 1), (3, 2)), ((2, 0), (1, 3)), ()), (((0, 1), (3, 2)), ((2, 0), (1, 1))),
    (((0, 1), (3, 2)), ((2, 0), (1,))), (((0, 1), (3, 2)), ((2, 0), (1, 2))), [((0, 1), (3, 2)), ((2, 0), (1, 3))],
    ([(0, 1), (3, 2)], ((2, 0), (1, 3))), (((0, 1), [3, 2]), ((2, 0), (1, 3))), (((0, True), (3, 2)), ((2, 0), (1, 3))),
    (((False, 1), (3, 2)), ((2, 0), (1, 3))), (((0, 1), (3, "2")), ((2, 0), (1, 3))), (((0, 1), (3, 2)), None),
    (((0, 1), None), ((2, 0), (1, 3))), (((0, 1), (3, None)), ((2, 0), (1, 3))), (((0, 1), (3, (2,))), ((2, 0), (1, 3))),
    (helper.Odd(),) * 2, (((0, 1), (3, 2)), (helper.Odd(),) * 2), (((0, 1), (3, helper.Odd())), ((2, 0), (1, 3))),
    (((0, 1), (3, 4)), ((2, 0), (1, 3))), (((0, 1, 1), (3, 2)), ((2, 0), (1, 3))), (((), ()), ((), ())), "0132"))
MATCHING = (InvalidMatching, (0, 3), but(
    [(), (0,), (0, 3), (1, 2)], [0, 3], (3, 0), (0, 1), (0, 2), (0, 0), (0, 4), (-1, 3), (False, 3), (0, True), ("0",), (0, None),
    (0, (3,)), (0, 1, 2, 3), (0, 10 ** 39), (0, helper.Odd()), (helper.Odd(),), (0,) * 2000, "03"))
LISTS = (InvalidLists, ((0,), (0, 1), (0, 1), (1, 99)), but(
    [], [(0,), (0, 1), (0, 1), (1, 99)], ((0,),) * 3, ((0,),) * 5, ((0,), (1, 0), (0, 1), (1,)), ((0,), (0, 0), (0,), (1,)),
    ((0,), (0, 1), (0, 1), (1, 100)), ((-1,), (0, 1), (0, 1), (1,)), (tuple(range(10)),) * 4, ([0], (0, 1), (0, 1), (1,)),
    ((False,), (0, 1), (0, 1), (1,)), ((0,), (0, True), (0, 1), (1,)), ((0,), (0, 1), (0, 1), ("1",)), (0, 1, 1, 0),
    ((0,), (0, 1), (0, 1), (None,)), ((0,), (0, 1), (0, 1), None), ((0,), (0, 1), (0, 1), "1"), (helper.Odd(),) * 4,
    ((helper.Odd(),),) * 4, ((0, helper.Odd()), (0,), (0,), (0,)), ((0,), (0, 1), (0, 1), (10 ** 39,)), ((0,),) * 2000, ["0"] * 4))
CHANGE = (InvalidChange, ("cut", 1, 2), but(
    [], ["cut", 1, 2], ("cut", 2, 1), ("cut", 1, 1), ("cut", 1), ("cut", 1, 2, 3), ("cut", 1, 9), ("cut", -1, 2), ("cut", True, 2),
    ("cut", 1, "2"), ("cut", 1, None), ("cut", (1, 2)), ("edge", 2, 0), ("edge", 0), ("out",), ("out", 9), ("out", -1), ("out", True),
    ("out", (0,)), ("out", 0, 1), ("vertex",), ("vertex", 0), ("vertex", [0]), ("vertex", (1, 0)), ("vertex", (0, 0)),
    ("vertex", (9,)), ("vertex", (False,)), ("vertex", (), ()), ("vertex", "0"), ("vertex", (None,)), ("turn", 0, 1), ("Cut", 1, 2),
    (b"cut", 1, 2), (helper.Odd(), 1, 2), ("cut", 1, helper.Odd()), ("vertex", helper.Odd()), ("vertex", (helper.Odd(),)),
    ("out", 10 ** 39), ("vertex", (0,) * 2000), "cut", (("cut",), 1, 2)))
CUTSET = (InvalidCutset, ((1, 2), (0, 3), (4,)), but(
    [], [(1, 2), (0, 3), (4,)], ((1, 2), (4,), (0, 3)), ((1, 2), (0, 3)), ((1, 2), (0, 3), (4,), ()), ((2, 1), (0, 3), (4,)),
    ((), (0, 1, 2, 3), (4,)), ((0, 2), (1,), (3, 4)), ((1, 2), (0, 3), ()), ((1, 2), (0,), (4,)), ((1, 2), (0, 3), (3, 4)),
    ((1, 2), (0, 3), [4]), ((True, 2), (0, 3), (4,)), ((1, 2), (False, 3), (4,)), ((1, 2), (0, 3), ("4",)), "abc",
    ((1, 2), (0, 3), (None,)), ((1, 2), (0, 3), None), (helper.Odd(),) * 3, ((1, 2), (0, 3), (helper.Odd(),)),
    ((1, 2), (0, 3), (5,)), ((1, 2), (0, 3), (10 ** 39,)), ((1, 2), (0, 3), (4,) * 2000), ((1, 2, 4), (0,), (3,))))

NUMBER = (InvalidNumber, 3, but(
    [0, 1, 5, 10 ** 39], -1, -10 ** 39, "3", (3,), [3], (3, 1), b"3", {3: 3}, ((),)))

# A value, whatever it is, is never refused.
FREE = (None, (), [])

FUNCTIONS = {
    graphs.is_lot: {"graph": GRAPH, "value": FREE},
    graphs.are_adjacent: {"graph": GRAPH, "one": VERTEX, "other": VERTEX},
    graphs.complement: {"graph": GRAPH},
    graphs.induced: {"graph": GRAPH, "lot": LOT},
    cliques.is_clique: {"graph": GRAPH, "lot": LOT},
    cliques.is_stable: {"graph": GRAPH, "lot": LOT},
    cliques.cliques: {"graph": GRAPH},
    cliques.stable_sets: {"graph": GRAPH},
    cliques.clique_number: {"graph": GRAPH},
    cliques.stable_number: {"graph": GRAPH},
    cliques.chromatic_number: {"graph": GRAPH},
    cliques.is_colouring: {"graph": GRAPH, "value": FREE},
    cliques.colouring: {"graph": GRAPH},
    substitution.substituted: {"graph": GRAPH, "vertex": VERTEX, "other": OTHER},
    substitution.union: {"graph": GRAPH, "other": OTHER},
    substitution.join: {"graph": GRAPH, "other": OTHER},
    substitution.replicated: {"graph": GRAPH, "times": TIMES},
    substitution.multiplied: {"graph": GRAPH, "times": TIMES},
    substitution.is_module: {"graph": GRAPH, "value": FREE},
    substitution.modules: {"graph": GRAPH},
    isomorphisms.is_renaming: {"graph": GRAPH, "value": FREE},
    isomorphisms.renamed: {"graph": GRAPH, "renaming": RENAMING},
    isomorphisms.does_lead: {"graph": GRAPH, "other": OTHER, "value": FREE},
    isomorphisms.renaming_to: {"graph": GRAPH, "other": OTHER},
    isomorphisms.are_isomorphic: {"graph": GRAPH, "other": OTHER},
    isomorphisms.is_self_complementary: {"graph": GRAPH},
    isomorphisms.automorphisms: {"graph": GRAPH},
    isomorphisms.least_form: {"graph": GRAPH},
    weights.is_cover: {"graph": GRAPH, "weights": WEIGHTS, "value": FREE},
    weights.is_pair: {"graph": GRAPH, "weights": WEIGHTS, "value": FREE},
    weights.heaviest_clique: {"graph": GRAPH, "weights": WEIGHTS},
    weights.pair: {"graph": GRAPH, "weights": WEIGHTS},
    fractions.fractional_number: {"graph": GRAPH, "weights": WEIGHTS},
    fractions.fractional_clique: {"graph": GRAPH, "weights": WEIGHTS},
    fractions.fractional_cover: {"graph": GRAPH, "weights": WEIGHTS},
    fractions.is_fractional_clique: {"graph": GRAPH, "value": FREE},
    fractions.is_fractional_cover: {"graph": GRAPH, "weights": WEIGHTS, "value": FREE},
    polytopes.is_in: {"graph": GRAPH, "shares": SHARES},
    polytopes.is_corner: {"graph": GRAPH, "shares": SHARES},
    polytopes.corners: {"graph": GRAPH},
    polytopes.fractional_corner: {"graph": GRAPH},
    orientations.is_orientation: {"graph": GRAPH, "value": FREE},
    orientations.is_clique_acyclic: {"graph": GRAPH, "orientation": ORIENTATION},
    orientations.clique_against: {"graph": GRAPH, "orientation": ORIENTATION},
    orientations.is_kernel: {"graph": GRAPH, "orientation": ORIENTATION, "lot": LOT},
    orientations.kernels: {"graph": GRAPH, "orientation": ORIENTATION},
    orientations.orientation_without_kernel: {"graph": GRAPH},
    multigraphs.greatest_degree: {"multigraph": MULTIGRAPH},
    multigraphs.line_graph: {"multigraph": MULTIGRAPH},
    multigraphs.is_edge_colouring: {"multigraph": MULTIGRAPH, "value": FREE},
    multigraphs.edge_colouring: {"multigraph": MULTIGRAPH},
    matchings.is_preferences: {"multigraph": MULTIGRAPH, "value": FREE},
    matchings.orientation_of: {"multigraph": MULTIGRAPH, "preferences": PREFERENCES},
    matchings.is_stable_matching: {"multigraph": MULTIGRAPH, "preferences": PREFERENCES, "matching": MATCHING},
    matchings.stable_matchings: {"multigraph": MULTIGRAPH, "preferences": PREFERENCES},
    matchings.best_matching: {"multigraph": MULTIGRAPH, "preferences": PREFERENCES},
    matchings.better_of: {"multigraph": MULTIGRAPH, "preferences": PREFERENCES, "one": MATCHING, "other": MATCHING},
    lists.is_lists: {"multigraph": MULTIGRAPH, "value": FREE},
    lists.is_from_lists: {"multigraph": MULTIGRAPH, "lists": LISTS, "value": FREE},
    lists.list_colouring: {"multigraph": MULTIGRAPH, "lists": LISTS},
    lists.colours_by: {"multigraph": MULTIGRAPH, "preferences": PREFERENCES, "lists": LISTS},
    lists.galvin_preferences: {"multigraph": MULTIGRAPH, "colours": COLOURS},
    changes.changed: {"graph": GRAPH, "change": CHANGE},
    changes.log_of: {"graph": GRAPH},
    changes.is_clique_cutset: {"graph": GRAPH, "value": FREE},
    changes.clique_cutset: {"graph": GRAPH},
    changes.parts_of: {"graph": GRAPH, "cutset": CUTSET},
    certificates.certify_perfect: {"graph": GRAPH},
    certificates.certify_weight: {"graph": GRAPH, "weights": WEIGHTS},
    certificates.certify_fractional: {"graph": GRAPH, "weights": WEIGHTS},
    certificates.certify_colours: {"graph": GRAPH, "many": NUMBER},
    certificates.certify_corner: {"graph": GRAPH, "shares": SHARES},
    certificates.certify_isomorphic: {"graph": GRAPH, "other": OTHER},
    certificates.certify_acyclic: {"graph": GRAPH, "orientation": ORIENTATION},
    certificates.certify_kernel: {"graph": GRAPH, "orientation": ORIENTATION},
    certificates.certify_stable: {"multigraph": MULTIGRAPH, "preferences": PREFERENCES, "matching": MATCHING},
    certificates.certify_lists: {"multigraph": MULTIGRAPH, "lists": LISTS},
    certificates.certify_cutset: {"graph": GRAPH},
}

# The house has no module and no odd hole: so other graphs are the right ones here.
FORKED = (5, ((0, 1), (1, 2), (1, 3), (2, 4)))
OF_OTHERS = {
    substitution.taken_apart: {"graph": (InvalidGraph, FORKED, helper.NO_GRAPHS), "module": MODULE},
    orientations.against: {"graph": (InvalidGraph, FIVE, helper.NO_GRAPHS), "hole": HOLE},
}


class Refused(unittest.TestCase):
    def check_told(self, error, value, call):
        with self.assertRaises(GraphError) as caught:
            call()
        self.assertIs(type(caught.exception), error)
        self.assertIs(caught.exception.given, value)

    def check(self, function, parameters):
        names = list(parameters)
        right = [right for _, right, _ in parameters.values()]
        function(*right)
        function(**dict(reversed(list(zip(names, right)))))
        for at, (error, _, wrong) in enumerate(parameters.values()):
            behind = [(good, bad[len(bad) // 2] if bad else good) for _, good, bad in list(parameters.values())[at + 1:]]
            for value in wrong:
                for rest in product(*behind):
                    passed = right[:at] + [value] + list(rest)
                    self.check_told(error, value, lambda: function(*passed))
                    self.check_told(error, value, lambda: function(**dict(reversed(list(zip(names, passed))))))

    def test_the_first_wrong_argument_is_told(self):
        for function, parameters in list(FUNCTIONS.items()) + list(OF_OTHERS.items()):
            with self.subTest(function.__name__):
                self.check(function, parameters)

    def test_all_wrong_values_beside_one_another(self):
        for function, parameters in list(FUNCTIONS.items()) + list(OF_OTHERS.items()):
            wrong_ones = [wrong for _, _, wrong in parameters.values() if wrong]
            if len(wrong_ones) == 2 and len(parameters) == 2:
                for at, value in enumerate(wrong_ones[0]):
                    other = wrong_ones[1][at % len(wrong_ones[1])]
                    error = list(parameters.values())[0][0]
                    self.check_told(error, value, lambda: function(value, other))

    def test_of_a_graph_without_vertices(self):
        none = (0, ())
        for vertex in (0, -1, True, None):
            self.check_told(InvalidVertex, vertex, lambda: graphs.are_adjacent(none, vertex, 0))
            self.check_told(InvalidVertex, vertex, lambda: substitution.substituted(none, vertex, FIVE))
        for lot in ((0,), ((),), [], None):
            for function in (graphs.induced, cliques.is_clique, cliques.is_stable):
                self.check_told(InvalidLot, lot, lambda: function(none, lot))
            self.check_told(InvalidLot, lot, lambda: substitution.taken_apart(none, lot))
            self.check_told(InvalidTimes, lot, lambda: substitution.replicated(none, lot))
            self.check_told(InvalidTimes, lot, lambda: substitution.multiplied(none, lot))
            self.check_told(InvalidRenaming, lot, lambda: isomorphisms.renamed(none, lot))
            for function in (weights.heaviest_clique, weights.pair, fractions.fractional_number,
                             fractions.fractional_clique, fractions.fractional_cover):
                self.check_told(InvalidWeights, lot, lambda: function(none, lot))
            for function in (polytopes.is_in, polytopes.is_corner):
                self.check_told(InvalidShares, lot, lambda: function(none, lot))
            for function in (orientations.kernels, orientations.is_clique_acyclic, orientations.clique_against):
                self.check_told(InvalidOrientation, lot, lambda: function(none, lot))
            self.check_told(InvalidLot, lot, lambda: orientations.is_kernel(none, (), lot))
            self.check_told(InvalidHole, lot, lambda: orientations.against(none, lot))
            self.check_told(InvalidCutset, lot, lambda: changes.parts_of(none, lot))
            self.check_told(InvalidChange, lot, lambda: changes.changed(none, lot))
        for change in (("out", 0), ("edge", 0, 1), ("cut", 0, 1), ("vertex", (0,))):
            self.check_told(Unfit, change, lambda: changes.changed(none, change))
        self.check_told(InvalidLot, (), lambda: substitution.taken_apart(none, ()))
        self.check_told(InvalidHole, (), lambda: orientations.against(none, ()))

    def test_of_a_multigraph_without_edges(self):
        none = (1, 0, ())
        for value in ((0,), ((),), [], None, ((), ()), (((),),), (((),), ((),)), ((), ((),))):
            self.check_told(InvalidColours, value, lambda: lists.galvin_preferences(none, value))
            self.check_told(InvalidLists, value, lambda: lists.list_colouring(none, value))
            self.check_told(InvalidMatching, value, lambda: matchings.is_stable_matching(none, (((),), ()), value))
            for function in (matchings.orientation_of, matchings.stable_matchings, matchings.best_matching):
                self.check_told(InvalidPreferences, value, lambda: function(none, value))
        self.assertEqual(matchings.stable_matchings(none, (((),), ())), ((),))

    def test_too_many_is_told_behind_all_others(self):
        for function in (isomorphisms.automorphisms, isomorphisms.least_form, polytopes.corners):
            self.check_told(InvalidGraph, (10, ()), lambda: function((10, ())))
            self.assertRaises(TooMany, function, (8, ()))
        for function in (substitution.union, substitution.join):
            wrong = (9, [])
            self.check_told(InvalidGraph, wrong, lambda: function((9, ()), wrong))
            self.assertRaises(TooMany, function, (9, ()), (1, ()))


    def test_no_pair_is_told_behind_all_others(self):
        wrong = (1, 1, 1, 1, True)
        self.check_told(InvalidWeights, wrong, lambda: certificates.certify_weight(FIVE, wrong))
        self.assertRaises(NoPair, certificates.certify_weight, FIVE, (1, 1, 1, 1, 1))


class NothingChanges(unittest.TestCase):
    def test_equal_calls_are_answered_alike(self):
        for function, parameters in list(FUNCTIONS.items()) + list(OF_OTHERS.items()):
            passed = [right for _, right, _ in parameters.values()]
            kept = repr(passed)
            told = repr(function(*passed))
            for _ in range(2):
                self.assertEqual(repr(function(*passed)), told)
            self.assertEqual(repr(passed), kept)
            self.assertNotIn("[", told)

    def test_lists_and_dicts_that_are_passed_stay_as_they_are(self):
        for function, parameters in FUNCTIONS.items():
            if "value" in parameters:
                for value in ([0, 1], {0: [1]}, [[0, 1], [1]], ([0],)):
                    passed = [right for name, (_, right, _) in parameters.items() if name != "value"] + [value]
                    kept = repr(value)
                    self.assertIs(function(*passed), False)
                    self.assertEqual(repr(value), kept)


if __name__ == "__main__":
    unittest.main()
