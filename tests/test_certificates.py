"""Each certificate: the claim is the one that is so by a search written otherwise, its paper is accepted."""

import unittest
from fractions import Fraction
from itertools import permutations

import helper
from helper import DOUBLED, FIVE, HOUSE, SQUARE
from perfectgraphs.certificates import (
    certify_acyclic, certify_colours, certify_corner, certify_cutset, certify_fractional, certify_isomorphic, certify_kernel,
    certify_led, certify_lists, certify_perfect, certify_stable, certify_weight,
)
from perfectgraphs.checker import accepts
from perfectgraphs.errors import InvalidLog, InvalidNumber, NoPair

MANY = (
    helper.all_graphs(4)[::5] + helper.extreme_graphs() + helper.even_rounds() + helper.odd_rounds_and_kin()[::4]
    + [HOUSE, FIVE, DOUBLED] + [graph for many in (5, 6, 7, 8, 9) for graph in helper.scattered(many, 6)]
)
SMALLER = [graph for graph in MANY if graph[0] < 7]
MULTIGRAPHS = helper.small_multigraphs()[::4] + helper.greater_multigraphs(40)


class Certificates(unittest.TestCase):
    def check(self, told, claim, opposite=None):
        """The claim to the letter, with a paper that it takes, and that its opposite does not take."""
        self.assertTrue(helper.is_among(told, [(claim, told[1])]), (told, claim))
        self.assertIs(accepts(claim, told[1]), True, told)
        if opposite is not None:
            self.assertIs(accepts((opposite,) + claim[1:], told[1]), False, told)
            self.assertIs(accepts((opposite,) + claim[1:], ()), False, told)


class OfGraphs(Certificates):
    def test_perfect(self):
        for graph in MANY:
            words = ("not perfect", "perfect") if helper.odd_rounds_of(graph) else ("perfect", "not perfect")
            self.check(certify_perfect(graph), (words[0], graph), words[1])
            self.assertEqual(certify_perfect(graph=graph), certify_perfect(graph))

    def test_colours(self):
        for graph in MANY:
            most = helper.fewest_colours_of(graph)
            for many in (0, most - 1, most, most + 1, 10 ** 39):
                if many >= 0:
                    words = ("colours", "not colours") if many >= most else ("not colours", "colours")
                    self.check(certify_colours(graph, many), (words[0], graph, many), words[1])
                    self.assertEqual(certify_colours(many=many, graph=graph), certify_colours(graph, many))

    def test_no_numbers_of_colours(self):
        for many in helper.ANY_VALUES + [-1, -10 ** 39, "3", (3,), [3], (3, 1)]:
            if type(many) is not int or many < 0:
                with self.assertRaises(InvalidNumber) as caught:
                    certify_colours(HOUSE, many)
                self.assertIs(caught.exception.given, many)

    def test_isomorphic(self):
        answers = set()
        for graph in SMALLER:
            others = [helper.renamed_by(graph, names) for names in helper.shuffles(graph[0], 3)] + [FIVE, helper.opposite(graph)]
            others.append(helper.graph_with(graph[0], set(graph[1]) ^ set(helper.all_pairs(graph[0])[:1])))
            for other in others:
                is_so = graph[0] == other[0] and any(
                    helper.renamed_by(graph, names) == other for names in permutations(range(graph[0])))
                words = ("isomorphic", "not isomorphic") if is_so else ("not isomorphic", "isomorphic")
                self.check(certify_isomorphic(graph, other), (words[0], graph, other), words[1])
                self.assertEqual(certify_isomorphic(other=other, graph=graph), certify_isomorphic(graph, other))
                answers.add(is_so)
        self.assertEqual(answers, {True, False})
        for graph in [graph for graph in MANY if graph[0] > 6]:
            for names in helper.shuffles(graph[0], 4):
                other = helper.renamed_by(graph, names)
                self.check(certify_isomorphic(graph, other), ("isomorphic", graph, other), "not isomorphic")

    def test_cutset(self):
        for graph in [graph for graph in MANY if graph[0] < 8]:
            is_so = bool(helper.cutsets_of(graph))
            words = ("clique cutset", "no clique cutset") if is_so else ("no clique cutset", "clique cutset")
            self.check(certify_cutset(graph), (words[0], graph), words[1])
            self.assertEqual(certify_cutset(graph=graph), certify_cutset(graph))


class OfWeightsAndShares(Certificates):
    def test_weight(self):
        answers = set()
        for graph in MANY:
            for weights in helper.weights_for(graph[0], 8):
                kept = [vertex for vertex in range(graph[0]) if weights[vertex]]
                is_so = not helper.odd_rounds_of(helper.induced_by(graph, kept))
                answers.add(is_so)
                if is_so:
                    number = helper.heaviest_of(graph, weights)
                    told = certify_weight(graph, weights)
                    self.check(told, ("weighs", graph, weights, number))
                    self.assertEqual(certify_weight(weights=weights, graph=graph), told)
                    for other in (number - 1, number + 1):
                        self.assertIs(accepts(("weighs", graph, weights, other), told[1]), False)
                else:
                    with self.assertRaises(NoPair) as caught:
                        certify_weight(graph, weights)
                    self.assertIs(type(caught.exception), NoPair)
        self.assertEqual(answers, {True, False})

    def test_fractional(self):
        for graph in MANY[::2]:
            for weights in helper.weights_for(graph[0], 6):
                claim, paper = told = certify_fractional(graph, weights)
                # Any clique and any cover that meet tell the number.
                worth = sum(Fraction(*share) * weight for share, weight in zip(paper[0], weights))
                self.assertTrue(helper.is_fractional_clique_told(graph, paper[0]))
                self.assertTrue(helper.is_fractional_cover_told(graph, weights, paper[1]))
                self.assertEqual(worth, sum(Fraction(*times) for _, times in paper[1]))
                self.check(told, ("fractional", graph, weights, helper.as_told(worth)))
                self.assertEqual(certify_fractional(weights=weights, graph=graph), told)
                more = helper.as_told(worth + Fraction(1, 7))
                self.assertIs(accepts(claim[:3] + (more,), paper), False)

    def test_corner(self):
        answers = set()
        for graph in MANY[::3]:
            lots = helper.stable_sets_of(graph)[::9] + helper.cliques_of(graph)[::9] + [tuple(range(graph[0]))]
            rows = [helper.on(graph, lot, share) for lot in lots for share in ((1, 1), (1, 2), (2, 1))]
            for shares in rows:
                is_so = helper.is_corner_told(graph, shares)
                words = ("corner", "no corner") if is_so else ("no corner", "corner")
                self.check(certify_corner(graph, shares), (words[0], graph, shares), words[1])
                self.assertEqual(certify_corner(shares=shares, graph=graph), certify_corner(graph, shares))
                answers.add((is_so, (1, 2) in shares))
        self.assertEqual(len(answers), 4)


class OfOrientations(Certificates):
    def orientations(self):
        found = [(graph, arcs) for graph in MANY for arcs in helper.some_orientations(graph, 6)]
        found.extend((graph, helper.against_told(graph, hole)) for graph in helper.odd_rounds_and_kin()[::3]
                     for _, hole in helper.odd_rounds_of(graph)[:2])
        return found

    def test_acyclic(self):
        answers = set()
        for graph, arcs in self.orientations():
            is_so = not helper.cliques_against(graph, arcs)
            words = ("clique-acyclic", "not clique-acyclic") if is_so else ("not clique-acyclic", "clique-acyclic")
            told = certify_acyclic(graph, arcs)
            self.check(told, (words[0], graph, arcs), words[1])
            self.assertEqual(certify_acyclic(orientation=arcs, graph=graph), told)
            answers.add(is_so)
        self.assertEqual(answers, {True, False})

    def test_kernel(self):
        answers = set()
        for graph, arcs in self.orientations():
            is_so = bool(helper.kernels_told(graph, arcs))
            words = ("kernel", "no kernel") if is_so else ("no kernel", "kernel")
            told = certify_kernel(graph, arcs)
            self.check(told, (words[0], graph, arcs), words[1])
            self.assertEqual(certify_kernel(orientation=arcs, graph=graph), told)
            answers.add((is_so, graph[0]))
        self.assertLessEqual({(False, 5), (False, 7), (False, 9), (True, 0), (True, 9)}, answers)


class OfMultigraphs(Certificates):
    def test_stable(self):
        answers = set()
        for multigraph in MULTIGRAPHS:
            for preferences in helper.preferences_for(multigraph, 3):
                stable = helper.stable_matchings_of(multigraph, preferences)
                for matching in list(stable) + helper.matchings_of(multigraph)[::3]:
                    is_so = matching in stable
                    words = ("stable", "not stable") if is_so else ("not stable", "stable")
                    told = certify_stable(multigraph, preferences, matching)
                    self.check(told, (words[0], multigraph, preferences, matching), words[1])
                    self.assertEqual(
                        certify_stable(matching=matching, preferences=preferences, multigraph=multigraph), told)
                    answers.add(is_so)
        self.assertEqual(answers, {True, False})

    def test_lists(self):
        answers = set()
        for multigraph in MULTIGRAPHS:
            for lists in helper.lists_for(multigraph, 10):
                is_so = any(True for _ in helper.list_colourings_of(multigraph, lists))
                words = ("from lists", "not from lists") if is_so else ("not from lists", "from lists")
                told = certify_lists(multigraph, lists)
                self.check(told, (words[0], multigraph, lists), words[1])
                self.assertEqual(certify_lists(lists=lists, multigraph=multigraph), told)
                answers.add(is_so)
        self.assertEqual(answers, {True, False})
        self.check(certify_lists(SQUARE, ((0,), (0,), (1,), (2,))), ("not from lists", SQUARE, ((0,), (0,), (1,), (2,))))


class OfLogs(Certificates):
    def test_led(self):
        for count in (0, 1, 5, 40, 200):
            log, graphs = helper.drawn_log(count, seed=count)
            self.check(certify_led(log), ("led", log, graphs[-1]))
            self.assertEqual(certify_led(log=log), certify_led(log))
            if count > 1:
                self.assertIs(accepts(("led", log, graphs[-2]), ()), graphs[-2] == graphs[-1])
                self.assertIs(accepts(("led", log[:-1], graphs[-1]), ()), graphs[-2] == graphs[-1])

    def test_no_logs(self):
        log, _ = helper.drawn_log(201, 3)
        for value, index in ((log, None), (list(log), None), (None, None), ((None,), 0), (log[:20] + (("out", 9),), 20), (log[1:], 0)):
            with self.assertRaises(InvalidLog) as caught:
                certify_led(value)
            self.assertEqual(caught.exception.index, index)


if __name__ == "__main__":
    unittest.main()
