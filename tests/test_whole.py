"""One truth told from all sides: the modules beside one another, on the same graphs."""

import unittest
from fractions import Fraction

import helper
from helper import DOUBLED, FIVE, HOUSE
from perfectgraphs.books import Book
from perfectgraphs.certificates import certify_perfect, certify_weight
from perfectgraphs.changes import clique_cutset, graph_of, log_of, parts_of
from perfectgraphs.checker import accepts
from perfectgraphs.cliques import chromatic_number, clique_number, cliques, stable_number, stable_sets
from perfectgraphs.console import said, told_all
from perfectgraphs.errors import NoPair
from perfectgraphs.fractions import fractional_number
from perfectgraphs.graphs import complement, induced
from perfectgraphs.holes import antiholes, holes, is_berge, odd_one
from perfectgraphs.isomorphisms import are_isomorphic, renamed
from perfectgraphs.lists import colours_by, galvin_preferences, is_from_lists
from perfectgraphs.matchings import best_matching, orientation_of, stable_matchings
from perfectgraphs.multigraphs import edge_colouring, greatest_degree, line_graph
from perfectgraphs.orientations import against, is_clique_acyclic, kernels, orientation_without_kernel
from perfectgraphs.perfection import is_minimal, is_perfect, lacking, minimal_lots, thin
from perfectgraphs.polytopes import corners, fractional_corner, is_corner
from perfectgraphs.substitution import join, modules, multiplied, replicated, substituted, taken_apart, union
from perfectgraphs.texts import from_graph6, graph6, print_graph, read_graph
from perfectgraphs.weights import heaviest_clique, pair, weight_of

MANY = (
    [graph for many in range(4) for graph in helper.all_graphs(many)] + helper.all_graphs(4)[::3] + helper.all_graphs(5)[::23]
    + [HOUSE, FIVE, DOUBLED] + helper.extreme_graphs() + helper.even_rounds() + helper.odd_rounds_and_kin()[::3]
    + [graph for many in (6, 7, 8, 9) for graph in helper.scattered(many, 8)]
)
EDGE, DOTS = (2, ((0, 1),)), (2, ())


class MainTheorem(unittest.TestCase):
    def test_all_sides_agree(self):
        answers = set()
        for graph in MANY:
            told = is_perfect(graph)
            answers.add(told)
            sides = [
                is_berge(graph), odd_one(graph) is None, is_perfect(complement(graph)), is_berge(complement(graph)),
                lacking(graph) is None, thin(graph) is None, minimal_lots(graph) == (), fractional_corner(graph) is None,
                orientation_without_kernel(graph) is None, certify_perfect(graph)[0] == ("perfect", graph),
                said(log_of(graph), "perfect")[1] == "perfect", accepts(("perfect", graph), ()),
            ]
            self.assertEqual(sides, [told] * len(sides), graph)
            if graph[0] <= 6:
                self.assertIs(all(set(row) <= {(0, 1), (1, 1)} for row in corners(graph)), told)
        self.assertEqual(answers, {True, False})

    def test_weights_and_fractions(self):
        for graph in MANY:
            for weights in helper.weights_for(graph[0], 8):
                kept = tuple(vertex for vertex in range(graph[0]) if weights[vertex])
                told, heaviest = pair(graph, weights), weight_of(heaviest_clique(graph, weights), weights)
                number = Fraction(*fractional_number(graph, weights))
                self.assertIs(told is not None, is_perfect(induced(graph, kept)))
                self.assertGreaterEqual(number, heaviest)
                if told is None:
                    self.assertRaises(NoPair, certify_weight, graph, weights)
                else:
                    self.assertEqual((number, sum(times for _, times in told[1])), (heaviest, heaviest))
                    self.assertEqual(certify_weight(graph, weights), (("weighs", graph, weights, heaviest), told))

    def test_papers_of_what_is_not_perfect(self):
        for graph in MANY:
            if not is_perfect(graph):
                word, hole = odd_one(graph)
                lot, arcs, shares = thin(graph), orientation_without_kernel(graph), fractional_corner(graph)
                for paper in ((word, hole), ("lot", lot), ("orientation", arcs), ("corner", shares),
                              ("orientation", against(graph, hole))):
                    self.assertIs(accepts(("not perfect", graph), paper), True, (graph, paper))
                self.assertIs(is_clique_acyclic(graph, arcs) and is_corner(graph, shares), True)
                self.assertEqual(kernels(graph, arcs), ())
                weights = tuple(int(vertex in hole) for vertex in range(graph[0]))
                self.assertIsNone(pair(graph, weights))
                self.assertGreater(Fraction(*fractional_number(graph, weights)), weight_of(heaviest_clique(graph, weights), weights))

    def test_minimal_lots_are_those_of_odd_holes_and_antiholes(self):
        for graph in MANY:
            odd = {tuple(sorted(hole)) for hole in holes(graph) + antiholes(graph) if len(hole) % 2}
            self.assertEqual(minimal_lots(graph), tuple(sorted(odd)))
            self.assertIs(is_minimal(graph), tuple(range(graph[0])) in odd)
            for lot in minimal_lots(graph):
                self.assertIs(is_minimal(induced(graph, lot)), True)

    def test_cliques_of_one_are_stable_sets_of_the_other(self):
        for graph in MANY:
            self.assertEqual(cliques(graph), stable_sets(complement(graph)))
            self.assertEqual(clique_number(graph), stable_number(complement(graph)))
            self.assertGreaterEqual(chromatic_number(graph), clique_number(graph))


class PutTogether(unittest.TestCase):
    def test_substitution_union_and_join(self):
        graphs = [HOUSE, FIVE, EDGE, DOTS, (1, ()), helper.round_of(4), helper.opposite(HOUSE)]
        for graph in graphs:
            for other in graphs:
                both = is_perfect(graph) and is_perfect(other)
                if graph[0] + other[0] <= 9:
                    self.assertIs(is_perfect(union(graph, other)), both)
                    self.assertIs(is_perfect(join(graph, other)), both)
                if graph[0] + other[0] <= 10:
                    for vertex in range(graph[0]):
                        self.assertIs(is_perfect(substituted(graph, vertex, other)), both)

    def test_modules(self):
        for graph in MANY:
            for module in modules(graph)[:6]:
                quotient, vertex, inner = taken_apart(graph, module)
                self.assertIs(is_perfect(graph), is_perfect(quotient) and is_perfect(inner))
                self.assertIs(are_isomorphic(graph, substituted(quotient, vertex, inner)), True)

    def test_copies(self):
        for graph in (HOUSE, FIVE, helper.round_of(4), (3, ((0, 1),))):
            for times in ((1, 2, 0, 2, 1), (2, 2, 1, 1, 1), (0, 1, 3, 1, 2), (0, 0, 0, 0, 0)):
                times = times[:graph[0]]
                copies, others = replicated(graph, times), multiplied(graph, times)
                kept = tuple(vertex for vertex in range(graph[0]) if times[vertex])
                self.assertEqual(clique_number(copies), weight_of(heaviest_clique(graph, times), times))
                self.assertEqual(chromatic_number(others), chromatic_number(induced(graph, kept)))
                told = pair(graph, times)
                if told is not None:
                    self.assertEqual(chromatic_number(copies), sum(many for _, many in told[1]))
                if is_perfect(graph):
                    self.assertIs(is_perfect(copies) and is_perfect(others), True)

    def test_cutsets(self):
        for graph in MANY:
            cutset = clique_cutset(graph)
            if cutset is not None:
                one, other = parts_of(graph, cutset)
                self.assertIs(is_perfect(graph), is_perfect(one) and is_perfect(other))
                self.assertEqual(clique_number(graph), max(clique_number(one), clique_number(other)))
                self.assertEqual(chromatic_number(graph), max(chromatic_number(one), chromatic_number(other)))

    def test_renamings(self):
        for graph in MANY[::3]:
            names = helper.shuffles(graph[0], 3)[-1]
            other = renamed(graph, names)
            self.assertEqual((is_perfect(other), is_berge(other), is_minimal(other)),
                             (is_perfect(graph), is_berge(graph), is_minimal(graph)))
            self.assertEqual(len(holes(other)), len(holes(graph)))


class LineGraphs(unittest.TestCase):
    def test_perfect_with_kernels_and_colours(self):
        for multigraph in helper.small_multigraphs()[::3] + helper.greater_multigraphs(40):
            graph, degree = line_graph(multigraph), greatest_degree(multigraph)
            self.assertIs(is_perfect(graph), True)
            self.assertEqual((chromatic_number(graph), clique_number(graph)), (degree, degree))
            preferences = galvin_preferences(multigraph, edge_colouring(multigraph))
            arcs = orientation_of(multigraph, preferences)
            self.assertIs(is_clique_acyclic(graph, arcs), True)
            self.assertEqual(kernels(graph, arcs), stable_matchings(multigraph, preferences))
            self.assertIn(best_matching(multigraph, preferences), kernels(graph, arcs))
            lists = tuple(tuple(range(edge, edge + degree)) for edge in range(graph[0]))
            self.assertIs(is_from_lists(multigraph, lists, colours_by(multigraph, preferences, lists)), True)


class Books(unittest.TestCase):
    def test_book_log_console_and_texts_tell_one_graph(self):
        for seed in range(5):
            log, graphs = helper.drawn_log(60, seed + 900)
            book = Book()
            for change in log:
                book.do(change)
            lines = []
            for change in log:
                numbers = change[1] if change[0] == "vertex" else change[1:]
                lines.append(" ".join([change[0]] + [str(number) for number in numbers]))
            console, answers = told_all((), tuple(lines))
            self.assertEqual((book.graph, book.log, console), (graph_of(log), log, log))
            self.assertEqual(answers, tuple(f"{graph[0]} vertices, {len(graph[1])} edges" for graph in graphs[1:]))
            self.assertEqual(read_graph(print_graph(book.graph)), from_graph6(graph6(book.graph)))
            self.assertEqual(said(console, "print")[1] + "\n", print_graph(book.graph))
            self.assertEqual(said(console, "code")[1], graph6(book.graph))
            self.assertIs(accepts(("led", book.log, book.graph), ()), True)
            # What is told of a graph hangs on the graph alone, not on its log.
            for line in ("perfect", "numbers", "holes", "antiholes", "cutsets", "corners"):
                self.assertEqual(said(console, line)[1], said(log_of(book.graph), line)[1])


if __name__ == "__main__":
    unittest.main()
