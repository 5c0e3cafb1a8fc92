"""The checker beside a judge of its own, which looks at all lots, matchings and so on, word by word."""

import unittest
from fractions import Fraction
from itertools import permutations, product

import helper
from helper import DOUBLED, FIVE, HOUSE, SQUARE
from perfectgraphs.changes import is_change
from perfectgraphs.checker import accepts
from perfectgraphs.graphs import is_graph
from perfectgraphs.lists import is_from_lists, is_lists
from perfectgraphs.matchings import is_preferences
from perfectgraphs.multigraphs import is_multigraph
from perfectgraphs.orientations import is_orientation

OPPOSITES = {
    "perfect": "not perfect", "colours": "not colours", "corner": "no corner", "isomorphic": "not isomorphic",
    "clique-acyclic": "not clique-acyclic", "kernel": "no kernel", "stable": "not stable",
    "from lists": "not from lists", "clique cutset": "no clique cutset",
}
OPPOSITES.update({no: yes for yes, no in OPPOSITES.items()})
ROUND = ((0, 1), (1, 2), (2, 3), (3, 4), (4, 0))
HALF = ((1, 2),) * 5
HEPTA, PATH = helper.opposite(helper.round_of(7)), (3, ((0, 1), (1, 2)))
SOME = (
    [graph for many in range(4) for graph in helper.all_graphs(many)][::2] + [HOUSE, FIVE, DOUBLED, PATH, helper.round_of(4)]
    + helper.scattered(5, 4) + helper.scattered(6, 4)
)
PREFERENCES = (((0, 1), (3, 2)), ((2, 0), (1, 3)))
LOG = (("vertex", ()), ("vertex", (0,)), ("vertex", (0, 1)), ("cut", 0, 1))


def is_number(value):
    return type(value) is int and value >= 0


def leads_to(log):
    """The graph to which the log leads; None for no LOG."""
    if type(log) is not tuple or len(log) > 200:
        return None
    graph = (0, ())
    for change in log:
        graph = helper.led_on(graph, change) if is_change(change) else None
        if graph is None:
            return None
    return graph


def are_weights(graph, value):
    return helper.is_right(lambda row: len(row) == graph[0] and all(one in range(1000001) for one in row), value)


KINDS = {
    "perfect": "graph", "not perfect": "graph", "weighs": "graph weights number", "fractional": "graph weights fraction",
    "colours": "graph number", "not colours": "graph number", "corner": "graph shares", "no corner": "graph shares",
    "isomorphic": "graph graph", "not isomorphic": "graph graph", "clique-acyclic": "graph orientation",
    "not clique-acyclic": "graph orientation", "kernel": "graph orientation", "no kernel": "graph orientation",
    "stable": "multigraph preferences matching", "not stable": "multigraph preferences matching",
    "from lists": "multigraph lists", "not from lists": "multigraph lists", "clique cutset": "graph",
    "no clique cutset": "graph", "led": "log graph",
}
ARE_PARTS = {
    "graph": lambda first, value: is_graph(value),
    "multigraph": lambda first, value: is_multigraph(value),
    "log": lambda first, value: leads_to(value) is not None,
    "number": lambda first, value: is_number(value),
    "fraction": lambda first, value: helper.is_fraction(value),
    "weights": are_weights,
    "shares": helper.are_shares_told,
    "orientation": is_orientation,
    "preferences": is_preferences,
    "matching": lambda first, value: helper.is_among(value, helper.matchings_of(first)),
    "lists": is_lists,
}


def is_claim(value):
    if type(value) is not tuple or not value or type(value[0]) is not str or value[0] not in KINDS:
        return False
    kinds = KINDS[value[0]].split()
    if len(value) != 1 + len(kinds):
        return False
    return all(ARE_PARTS[kind](value[1], part) for kind, part in zip(kinds, value[1:]))


def is_nothing(paper):
    return helper.is_among(paper, [()])


def thin_lots(graph):
    found = []
    for lot in helper.lots_of(graph):
        inner = helper.induced_by(graph, lot)
        if len(lot) > helper.greatest_clique_of(inner) * helper.greatest_stable_of(inner):
            found.append(lot)
    return found


def tells_against(graph, paper):
    if type(paper) is not tuple or len(paper) != 2 or type(paper[0]) is not str:
        return False
    word, told = paper
    if word in ("hole", "antihole"):
        return helper.is_among(paper, helper.odd_rounds_of(graph))
    if word == "lot":
        return helper.is_among(told, thin_lots(graph))
    if word == "corner" and helper.are_shares_told(graph, told):
        return helper.is_corner_told(graph, told) and not set(told) <= {(0, 1), (1, 1)}
    if word == "orientation" and is_orientation(graph, told):
        return not helper.cliques_against(graph, told) and not helper.kernels_told(graph, told)
    return False


def is_best_in_fractions(graph, weights, number, paper):
    if type(paper) is not tuple or len(paper) != 2 or not helper.is_fractional_clique_told(graph, paper[0]):
        return False
    if not helper.is_fractional_cover_told(graph, weights, paper[1]):
        return False
    worth = sum(Fraction(*share) * weight for share, weight in zip(paper[0], weights))
    return worth == sum(Fraction(*times) for _, times in paper[1]) == Fraction(*number)


def leads(graph, other, paper):
    return (graph[0] == other[0] and sorted(paper) == list(range(graph[0]))
            and helper.renamed_by(graph, paper) == other)


def are_isomorphic(graph, other):
    return any(leads(graph, other, names) for names in permutations(range(graph[0])))


def are_far(graph, arcs, paper):
    lots = sorted(helper.stable_sets_of(graph))
    return (len(paper) == len(lots) and all(vertex in range(graph[0]) and vertex not in lot for vertex, lot in zip(paper, lots))
            and not any((vertex, inner) in arcs for vertex, lot in zip(paper, lots) for inner in lot))


def alone(multigraph, preferences, matching):
    """The edges outside that give way to none of the matching."""
    outside = set(range(len(multigraph[2]))) - set(matching)
    return [edge for edge in sorted(outside)
            if not any(helper.gives_way(preferences, edge, inner) for inner in matching)]


JUDGES = {
    "perfect": lambda paper, graph: is_nothing(paper) and not helper.odd_rounds_of(graph),
    "not perfect": lambda paper, graph: tells_against(graph, paper),
    "weighs": lambda paper, graph, weights, number: (
        helper.is_pair_told(graph, weights, paper) and sum(weights[vertex] for vertex in paper[0]) == number),
    "fractional": lambda paper, *parts: is_best_in_fractions(*parts, paper),
    "colours": lambda paper, graph, many: helper.is_right(
        lambda row: len(row) == graph[0] and all(is_number(one) and one < many for one in row)
        and all(row[one] != row[two] for one, two in graph[1]), paper),
    "not colours": lambda paper, graph, many: is_nothing(paper) and not helper.is_colourable(graph, min(many, 9)),
    "corner": lambda paper, graph, shares: is_nothing(paper) and helper.is_corner_told(graph, shares),
    "no corner": lambda paper, graph, shares: is_nothing(paper) and not helper.is_corner_told(graph, shares),
    "isomorphic": lambda paper, graph, other: helper.is_right(lambda row: leads(graph, other, row), paper),
    "not isomorphic": lambda paper, graph, other: is_nothing(paper) and not are_isomorphic(graph, other),
    "clique-acyclic": lambda paper, graph, arcs: is_nothing(paper) and not helper.cliques_against(graph, arcs),
    "not clique-acyclic": lambda paper, graph, arcs: helper.is_among(paper, helper.cliques_against(graph, arcs)),
    "kernel": lambda paper, graph, arcs: helper.is_among(paper, helper.kernels_told(graph, arcs)),
    "no kernel": lambda paper, graph, arcs: helper.is_right(lambda row: are_far(graph, arcs, row), paper),
    "stable": lambda paper, *parts: is_nothing(paper) and not alone(*parts),
    "not stable": lambda paper, *parts: is_number(paper) and paper in alone(*parts),
    "from lists": lambda paper, multigraph, lists: helper.is_among(paper, helper.list_colourings_of(multigraph, lists)),
    "not from lists": lambda paper, *parts: is_nothing(paper) and not any(True for _ in helper.list_colourings_of(*parts)),
    "clique cutset": lambda paper, graph: helper.is_among(paper, helper.cutsets_of(graph)),
    "no clique cutset": lambda paper, graph: is_nothing(paper) and not helper.cutsets_of(graph),
    "led": lambda paper, log, graph: is_nothing(paper) and leads_to(log) == graph,
}


def is_taken(claim, paper):
    return is_claim(claim) and bool(JUDGES[claim[0]](paper, *claim[1:]))


def papers_against(graph):
    """All papers that tell that a graph is not perfect, but for orientations: those against odd holes and antiholes."""
    found = helper.odd_rounds_of(graph) + [("lot", lot) for lot in thin_lots(graph)]
    for word, hole in helper.odd_rounds_of(graph):
        share = (1, 2) if word == "hole" else helper.as_told(Fraction(2, len(hole) - 1))
        found.append(("corner", helper.on(graph, hole, share)))
        found.append(("orientation", helper.against_told(graph, hole)))
    return found


def weighings():
    """(GRAPH, WEIGHTS, NUMBER, PAIR): pairs found by a search."""
    found = []
    for graph in SOME + [(6, ()), helper.opposite((5, ()))]:
        for weights in helper.weights_for(graph[0], 12):
            number = helper.heaviest_of(graph, weights)
            cover = helper.cover_of_size(graph, weights, number) if number < 12 else None
            if cover is not None:
                clique = next(lot for lot in helper.cliques_of(graph) if sum(weights[at] for at in lot) == number)
                found.append((graph, weights, number, (clique, cover)))
    return found


def in_fractions(graph, pair):
    """The PAIR as a fractional clique and a fractional cover."""
    return (helper.on(graph, pair[0]), tuple((lot, (times, 1)) for lot, times in pair[1]))


def round_papers():
    """(GRAPH, WEIGHTS, NUMBER, PAPER) of what goes round: equal shares, and all stable sets turned round."""
    found = []
    for many in (5, 7, 9):
        half = many // 2
        turned = sorted(tuple(sorted((at + 2 * step) % many for step in range(half))) for at in range(many))
        found.append((helper.round_of(many), (1,) * many, (many, half),
                      (((1, half),) * many, tuple((lot, (1, half)) for lot in turned))))
        twos = sorted(tuple(sorted((at, (at + 1) % many))) for at in range(many))
        found.append((helper.opposite(helper.round_of(many)), (1,) * many, (many, 2),
                      (((1, 2),) * many, tuple((lot, (1, 2)) for lot in twos))))
    return found


def cases():
    """(CLAIM, PAPERS): claims that are so, with papers of their own."""
    found = []
    for graph in SOME + [HEPTA, helper.round_of(7)]:
        against = papers_against(graph)
        found.append((("not perfect", graph), against) if against else (("perfect", graph), [()]))
    for graph in SOME:
        cutsets, most = helper.cutsets_of(graph), helper.chromatic_number_of(graph)
        found.append((("clique cutset", graph), cutsets) if cutsets else (("no clique cutset", graph), [()]))
        found.extend((("not colours", graph, many), [()]) for many in range(most))
        rows = [row for row in product(range(most), repeat=graph[0])
                if all(row[one] != row[two] for one, two in graph[1])]
        found.extend((("colours", graph, many), rows[:5]) for many in (most, most + 1, 10 ** 39))
        found.extend((("isomorphic", graph, helper.renamed_by(graph, names)), [names])
                     for names in helper.shuffles(graph[0], 3))
        found.append((("not isomorphic", graph, (graph[0] + 1, graph[1])), [()]))
        orientations = helper.some_orientations(graph, 6)
        for arcs in orientations:
            told, kernels = helper.cliques_against(graph, arcs), helper.kernels_told(graph, arcs)
            found.append((("not clique-acyclic", graph, arcs), told) if told else (("clique-acyclic", graph, arcs), [()]))
            if kernels:
                found.append((("kernel", graph, arcs), list(kernels)))
        found.extend((("corner", graph, helper.on(graph, lot)), [()]) for lot in helper.stable_sets_of(graph)[:6])
        found.extend((("no corner", graph, helper.on(graph, lot, (1, 2))), [()]) for lot in helper.cliques_of(graph)[1:4])
    return found + more_cases()


def more_cases():
    found = [(("corner", FIVE, HALF), [()]), (("no corner", HOUSE, HALF), [()]), (("corner", (0, ()), ()), [()])]
    found.extend((("weighs", graph, weights, number), [pair]) for graph, weights, number, pair in weighings())
    found.extend((("fractional", graph, weights, (number, 1)), [in_fractions(graph, pair)])
                 for graph, weights, number, pair in weighings())
    found.extend((("fractional", graph, weights, number), [paper]) for graph, weights, number, paper in round_papers())
    for graph in (FIVE, DOUBLED):
        for _, hole in helper.odd_rounds_of(graph):
            arcs = helper.against_told(graph, hole)
            found.append((("no kernel", graph, arcs), far_papers(graph, arcs)))
    found.extend((("no kernel", graph, arcs), far_papers(graph, arcs)) for graph, arcs in (
        (FIVE, ROUND), (helper.round_of(3), ((0, 1), (1, 2), (2, 0))), ((4, ((0, 1), (0, 2), (1, 2))), ((0, 1), (1, 2), (2, 0)))))
    for multigraph in [SQUARE, (1, 1, ((0, 0), (0, 0))), (0, 0, ())] + helper.greater_multigraphs(24)[12:]:
        for preferences in helper.preferences_for(multigraph, 2) + [PREFERENCES] * (multigraph == SQUARE):
            for matching in helper.matchings_of(multigraph)[:20]:
                told = alone(multigraph, preferences, matching)
                found.append((("not stable" if told else "stable", multigraph, preferences, matching), told or [()]))
        for lists in helper.lists_for(multigraph, 8):
            told = [row for row, _ in zip(helper.list_colourings_of(multigraph, lists), range(4))]
            found.append((("from lists" if told else "not from lists", multigraph, lists), told or [()]))
    for count in (0, 1, 3, 10, 60, 200):
        log, graphs = helper.drawn_log(count, seed=count + 50)
        found.append((("led", log, graphs[-1]), [()]))
    return found + [(("led", LOG, (3, ((0, 2), (1, 2)))), [()])]


def far_papers(graph, arcs):
    """For each stable set the first vertex outside that has no arc to it, or the last one."""
    rows = []
    for lot in sorted(helper.stable_sets_of(graph)):
        rows.append([vertex for vertex in range(graph[0])
                     if vertex not in lot and not any((vertex, inner) in arcs for inner in lot)])
    return [tuple(row[0] for row in rows), tuple(row[-1] for row in rows)]


CASES = cases()
BY_WORD = {word: [case for case in CASES if case[0][0] == word] for word in KINDS}
STRANGE = helper.ANY_VALUES + [
    ("hole", (0, 1, 2, 3, 4)), ("antihole", (0, 2, 4, 1, 3)), ("lot", (0, 1, 2, 3, 4)), ("corner", HALF), ("orientation", ROUND),
    ("hole",), ("hole", (0, 1, 2, 3, 4), ()), ("holes", (0, 1, 2, 3, 4)), (helper.Odd(), (0, 1, 2, 3, 4)), ("hole", None),
    (("hole", (0, 1, 2, 3, 4)),), ["hole", (0, 1, 2, 3, 4)], ("lot", None), ("corner", None), ("orientation", None), ("lot", ()),
    ((0, 1), (((0,), 1),)), (0, 1, 2, 3, 4), (0, 0, 1, 0, 1), (None, None), ((0,), (1,), (2,)), HALF, ROUND, [()],
]


class Papers(unittest.TestCase):
    def check(self, claim, paper):
        told = accepts(claim, paper)
        self.assertIs(told, is_taken(claim, paper), (claim, paper))
        return told

    def test_all_kinds_are_there(self):
        for word, rows in BY_WORD.items():
            self.assertTrue(rows and all(papers for _, papers in rows), word)

    def test_right_papers(self):
        for claim, papers in CASES:
            for paper in papers:
                self.assertTrue(self.check(claim, paper), (claim, paper))
                self.assertIs(accepts(paper=paper, claim=claim), True)

    def test_no_paper_for_the_opposite_claim(self):
        for claim, papers in CASES:
            if claim[0] in OPPOSITES:
                other = (OPPOSITES[claim[0]],) + claim[1:]
                for paper in papers[:4] + STRANGE:
                    self.assertIs(accepts(other, paper), False, (other, paper))

    def test_papers_of_other_claims(self):
        for word, rows in BY_WORD.items():
            for at, (claim, _) in enumerate(rows[::max(1, len(rows) // 12)]):
                for others in BY_WORD.values():
                    self.check(claim, others[at % len(others)][1][0])
                # A paper for another claim of the same kind.
                for _, papers in rows[::max(1, len(rows) // 8)]:
                    self.check(claim, papers[0])

    def test_values_of_any_kind(self):
        for rows in BY_WORD.values():
            for claim, _ in rows[::max(1, len(rows) // 8)]:
                for paper in STRANGE:
                    self.check(claim, paper)

    def test_bent_papers(self):
        for word, rows in BY_WORD.items():
            for claim, papers in rows[::max(1, len(rows) // 4)]:
                for paper in (papers[0], papers[-1]):
                    for value in helper.bent(paper)[:300]:
                        self.check(claim, value)

    def test_nothing_alone_where_nothing_is_told(self):
        others = [None, False, 0, "", [], {}, b"", frozenset(), ((),), (0,), helper.Odd(), range(0)]
        for claim, papers in CASES:
            if papers == [()]:
                for paper in others:
                    self.assertIs(accepts(claim, paper), False, (claim, paper))


class NotPerfect(unittest.TestCase):
    def test_each_orientation_of_five(self):
        taken = 0
        for arcs in helper.all_orientations(FIVE):
            told = not helper.cliques_against(FIVE, arcs) and not helper.kernels_told(FIVE, arcs)
            self.assertIs(accepts(("not perfect", FIVE), ("orientation", arcs)), told)
            taken += told
        self.assertGreater(taken, 1)

    def test_orientations_that_are_not_clique_acyclic(self):
        kinds = set()
        for graph, step in ((helper.round_of(3), 1), (DOUBLED, 7), (HOUSE, 1)):
            for arcs in helper.all_orientations(graph)[::step]:
                is_against, kernels = bool(helper.cliques_against(graph, arcs)), helper.kernels_told(graph, arcs)
                self.assertIs(accepts(("not perfect", graph), ("orientation", arcs)), not is_against and not kernels)
                kinds.add((graph[0], is_against, bool(kernels)))
        self.assertLessEqual({(3, True, False), (6, True, False), (6, False, False), (5, True, False)}, kinds)

    def test_each_lot_and_each_corner(self):
        for graph in [FIVE, DOUBLED, HOUSE, helper.opposite(DOUBLED)]:
            thin = thin_lots(graph)
            for lot in helper.lots_of(graph):
                self.assertIs(accepts(("not perfect", graph), ("lot", lot)), lot in thin)
            for shares in helper.corners_told(graph):
                is_whole = set(shares) <= {(0, 1), (1, 1)}
                self.assertIs(accepts(("not perfect", graph), ("corner", shares)), not is_whole)
            self.assertIs(accepts(("not perfect", graph), ("corner", helper.on(graph, (), (0, 1)))), False)

    def test_holes_of_even_length_are_not_taken(self):
        for graph in helper.even_rounds() + [HOUSE]:
            for word, holes in (("hole", helper.holes_of(graph)), ("antihole", helper.holes_of(helper.opposite(graph)))):
                for hole in holes:
                    self.assertIs(accepts(("not perfect", graph), (word, hole)), False)

    def test_odd_ones_of_7_and_9(self):
        for many in (7, 9):
            for graph in (helper.round_of(many), helper.opposite(helper.round_of(many))):
                papers = papers_against(graph)
                self.assertEqual({word for word, _ in papers} & {"lot", "corner", "orientation"}, {"lot", "corner", "orientation"})
                for paper in papers:
                    self.assertIs(accepts(("not perfect", graph), paper), True, (graph, paper))
                    self.assertIs(accepts(("perfect", graph), paper), False)
                for word, hole in helper.odd_rounds_of(graph):
                    other = {"hole": "antihole", "antihole": "hole"}[word]
                    self.assertIs(accepts(("not perfect", graph), (other, hole)), False)


class Numbers(unittest.TestCase):
    def test_weights_a_little_more_or_less(self):
        for graph, weights, number, pair in weighings():
            for other in (number - 1, number + 1, -number - 1, bool(number), str(number), (number, 1), None, 10 ** 39):
                if not helper.is_among(other, [number]):
                    self.assertIs(accepts(("weighs", graph, weights, other), pair), False)
            dearer = pair[1][:-1] + tuple((lot, times + 1) for lot, times in pair[1][-1:])
            if dearer:
                self.assertIs(accepts(("weighs", graph, weights, number), (pair[0], dearer)), False)
                self.assertIs(accepts(("weighs", graph, weights, number + 1), (pair[0], dearer)), False)
                self.assertIs(accepts(("weighs", graph, weights, number), (pair[0], pair[1][:-1])), False)

    def test_a_clique_that_is_not_heaviest(self):
        for graph, weights, number, (_, cover) in weighings():
            for clique in helper.cliques_of(graph):
                weight = sum(weights[at] for at in clique)
                told = accepts(("weighs", graph, weights, weight), (clique, cover))
                self.assertIs(told, weight == number)

    def test_fractions_a_little_more_or_less(self):
        rows = [(claim, papers[0]) for claim, papers in BY_WORD["fractional"]]
        for (_, graph, weights, number), paper in rows:
            for more in (1, -1, Fraction(1, 2), Fraction(-1, 1000), Fraction(1, 10 ** 30)):
                other = helper.as_told(Fraction(*number) + more)
                self.assertIs(accepts(("fractional", graph, weights, other), paper), False)
            n, m = number
            for other in ((2 * n, 2 * m), (-n, -m), (n, m, 1), [n, m], n, (n,), (n, True), (n, 0), (0, 0), None):
                if not helper.is_among(other, [number]):
                    self.assertIs(accepts(("fractional", graph, weights, other), paper), False, other)

    def test_fractions_where_one_of_both_is_worse(self):
        for (_, graph, weights, number), papers in BY_WORD["fractional"]:
            shares, cover = papers[0]
            lesser = tuple((0, 1) for _ in shares)
            dearer = cover[:-1] + tuple((lot, helper.as_told(Fraction(*times) + 1)) for lot, times in cover[-1:])
            told = accepts(("fractional", graph, weights, number), (lesser, cover))
            self.assertIs(told, number == (0, 1))
            if cover:
                self.assertIs(accepts(("fractional", graph, weights, number), (shares, dearer)), False)
                more = helper.as_told(Fraction(*number) + 1)
                self.assertIs(accepts(("fractional", graph, weights, more), (shares, dearer)), False)

    def test_colours(self):
        for graph in SOME:
            most = helper.chromatic_number_of(graph)
            for many in (0, most - 1, most, most + 1, True, -1, str(most), None, 10 ** 39, (most,)):
                is_right = type(many) is int and many >= 0
                self.assertIs(accepts(("not colours", graph, many), ()), is_right and many < most)
                row = tuple(range(graph[0]))
                told = is_right and many >= graph[0]
                self.assertIs(accepts(("colours", graph, many), row), told, (graph, many))


class Claims(unittest.TestCase):
    def test_bent_claims(self):
        for word, rows in BY_WORD.items():
            for claim, papers in rows[::max(1, len(rows) // 3)]:
                for value in helper.bent(claim)[:600]:
                    for paper in (papers[0], ()):
                        self.assertIs(accepts(value, paper), is_taken(value, paper), (value, paper))

    def test_values_of_any_kind(self):
        papers = [(), None, ("hole", (0, 1, 2, 3, 4)), (0, 1, 2), 0, helper.Odd()]
        for value in STRANGE + helper.NO_GRAPHS + helper.NO_MULTIGRAPHS:
            for claim in (value, (value,), ("perfect", value), (value, HOUSE), ("perfect", HOUSE, value), ("led", value, (0, ()))):
                for paper in papers:
                    self.assertIs(accepts(claim, paper), is_taken(claim, paper), (claim, paper))

    def test_each_word_alone_and_with_other_parts(self):
        others = [HOUSE, FIVE, (1, 1, 0, 1, 0), 3, (5, 2), HALF, ROUND, SQUARE, PREFERENCES, (0, 3), ((0, 1),) * 4, LOG]
        for word in list(KINDS) + ["", "Perfect", "perfect ", "not  perfect", "imperfect", "no", "hole", "led by"]:
            for size in range(3):
                for parts in product(others, repeat=size):
                    self.assertIs(accepts((word,) + parts, ()), is_taken((word,) + parts, ()), (word, parts))

    def test_a_part_more_or_less(self):
        for word, rows in BY_WORD.items():
            claim, papers = rows[-1]
            for value in (claim[:-1], claim + (claim[-1],), claim + ((),), list(claim), (claim,), claim[1:], claim[::-1]):
                self.assertIs(accepts(value, papers[0]), False, value)

    def test_wrong_parts(self):
        wrong = [
            ("weighs", HOUSE, (1, 1, 1, 1, True), 3), ("weighs", HOUSE, (1, 1, 1, 1), 3), ("weighs", HOUSE, [1] * 5, 3),
            ("weighs", HOUSE, (1, 1, 1, 1, 1000001), 1000003), ("fractional", HOUSE, (1, 1, 1, 1, -1), (2, 1)),
            ("corner", HOUSE, ((0, 1),) * 4), ("no corner", HOUSE, ((2, 2),) * 5), ("no corner", HOUSE, HALF[1:]),
            ("no corner", FIVE, ((1, 2),) * 4 + ((-1, 2),)), ("isomorphic", HOUSE, (10, ())), ("not isomorphic", HOUSE, (10, ())),
            ("not isomorphic", (10, ()), HOUSE), ("clique-acyclic", FIVE, ROUND[1:]), ("clique-acyclic", FIVE, ROUND[::-1]),
            ("no clique cutset", (10, ())), ("stable", SQUARE, PREFERENCES, (3, 0)), ("stable", SQUARE, PREFERENCES[::-1], (0, 3)),
            ("stable", SQUARE, PREFERENCES, (0, 1)), ("not from lists", SQUARE, ((0,),) * 3), ("not from lists", SQUARE, ((0, 0),) * 4),
            ("led", LOG + (("out", 5),), (3, ((0, 2), (1, 2)))), ("led", list(LOG), (3, ((0, 2), (1, 2)))), ("led", LOG, (3, ((0, 2),))),
            ("led", LOG, (3, [(0, 2), (1, 2)])), ("led", LOG, (3, ((0, 2), (True, 2)))), ("perfect", (2, ((0, True),))),
            ("led", helper.drawn_log(201, 51)[0], helper.drawn_log(201, 51)[1][-1]),
        ]
        for claim in wrong:
            self.assertIs(is_taken(claim, ()), False)
            self.assertIs(accepts(claim, ()), False, claim)


class OneOfTwo(unittest.TestCase):
    def test_at_most_one_has_a_paper(self):
        papers = STRANGE + [paper for rows in BY_WORD.values() for _, papers in rows[::9] for paper in papers[:1]]
        for word, rows in BY_WORD.items():
            if word in OPPOSITES:
                for claim, right in rows[::max(1, len(rows) // 5)]:
                    other = (OPPOSITES[word],) + claim[1:]
                    taken = [any(accepts(one, paper) for paper in papers + right) for one in (claim, other)]
                    self.assertEqual(taken, [True, False], claim)

    def test_from_lists_beside_is_from_lists(self):
        for claim, papers in BY_WORD["from lists"]:
            for paper in papers:
                self.assertIs(accepts(claim, paper), is_from_lists(claim[1], claim[2], paper))


if __name__ == "__main__":
    unittest.main()
