import unittest
from itertools import product

import helper
from helper import DOUBLED, FIVE, HOUSE
from perfectgraphs.changes import (
    changed, clique_cutset, graph_of, is_change, is_clique_cutset, log_of, parts_of,
)
from perfectgraphs.errors import InvalidChange, InvalidCutset, InvalidGraph, InvalidLog, Unfit

LOG = (("vertex", ()), ("vertex", (0,)), ("vertex", (0, 1)), ("cut", 0, 1))
SOME = (
    [graph for many in range(4) for graph in helper.all_graphs(many)] + helper.all_graphs(4)[::7]
    + [HOUSE, FIVE, DOUBLED, (9, ()), helper.opposite((9, ())), (8, ()), helper.round_of(8), helper.round_of(9)]
    + [graph for many in (5, 6, 7, 8, 9) for graph in helper.scattered(many, 3)]
)
# The threefold looks take 3 ** N steps each.
CUT = (
    [graph for many in range(5) for graph in helper.all_graphs(many)] + helper.all_graphs(5)[::11]
    + [HOUSE, FIVE, DOUBLED, (7, ()), helper.opposite((7, ())), helper.round_of(6), helper.round_of(7), (8, ((0, 7),))]
    + [graph for many in (6, 7) for graph in helper.scattered(many, 25)] + helper.scattered(8, 5)
    + helper.odd_rounds_and_kin()[:40:4]
)


def is_change_told(value):
    """By the words: the kind, then a lot or numbers, ascending, of one figure up to 8."""
    if type(value) is not tuple or not value or type(value[0]) is not str:
        return False
    kind, rest = value[0], value[1:]
    numbers = rest[0] if kind == "vertex" and len(rest) == 1 else rest
    if kind not in ("vertex", "out", "edge", "cut") or not helper.is_plain(rest) or type(numbers) is not tuple:
        return False
    if kind != "vertex" and len(rest) != (1 if kind == "out" else 2):
        return False
    if kind == "vertex" and len(rest) != 1:
        return False
    return all(type(number) is int and number < 9 for number in numbers) and list(numbers) == sorted(set(numbers))


def pieces_of(graph, vertices):
    """How many pieces the vertices make up."""
    left, many = set(vertices), 0
    while left:
        reached, ahead = set(), {left.pop()}
        while ahead:
            reached |= ahead
            near = {vertex for edge in graph[1] for vertex in edge if set(edge) & ahead}
            ahead = (near & set(vertices)) - reached
        left -= reached
        many += 1
    return many


class Session(unittest.TestCase):
    def test_answers(self):
        cutset = clique_cutset(HOUSE)
        self.assertEqual(
            [graph_of(LOG), changed(graph_of(LOG), ("out", 0)), log_of(graph_of(LOG)), is_change(("edge", 3, 3))],
            [(3, ((0, 2), (1, 2))), (2, ((0, 1),)), (("vertex", ()), ("vertex", ()), ("vertex", (0, 1))), False])
        self.assertEqual(
            [cutset, parts_of(HOUSE, cutset)],
            [((1, 2), (0, 3), (4,)), ((4, ((0, 1), (0, 3), (1, 2), (2, 3))), (3, ((0, 1), (0, 2), (1, 2))))])


class Changes(unittest.TestCase):
    def test_right_ones(self):
        for change in helper.all_changes():
            self.assertIs(is_change(change), True, change)
            self.assertIs(is_change(value=change), True)

    def test_numbers_and_orders(self):
        for kind in ("out", "edge", "cut", "vertex"):
            for size in range(4):
                for numbers in product((-1, 0, 1, 8, 9), repeat=size):
                    for value in ((kind,) + numbers, (kind, numbers)):
                        self.assertIs(is_change(value), is_change_told(value), value)

    def test_bent_values(self):
        for right in (("vertex", (0, 3, 8)), ("vertex", ()), ("out", 8), ("out", 0), ("edge", 0, 8), ("cut", 3, 4)):
            for value in helper.bent(right[1:]):
                if type(value) is tuple:
                    value = right[:1] + value
                    self.assertIs(is_change(value), is_change_told(value), value)
            for word in helper.ANY_VALUES + ["vertex", "out", "edge", "cut", "Out", "cut ", "vertices", b"cut", ("cut",), 10 ** 39]:
                value = (word,) + right[1:]
                self.assertIs(is_change(value), is_change_told(value), value)

    def test_values_of_any_kind(self):
        strange = [["out", 0], ("vertex", [0]), ("vertex", [0, 1]), ("vertex", 0), ("vertex", "0"), ("vertex", (True,)),
                   ("vertex", (False, 1)), ("out", True), ("out", False), ("out", "0"), ("out", None), ("out", (0,)), ("edge", (0, 1)),
                   ("edge", False, 1), ("edge", 0, True), ("cut", 0, "1"), ("cut", 0, None), ("out", helper.Odd()),
                   ("vertex", (helper.Odd(),)), ("vertex", helper.Odd()), (helper.Odd(), 0), ("vertex",), ("out",), ("edge", 1),
                   ("vertex", (), ()), ("vertex", 0, 1), ("vertex", (0, (1,))), ("out", 10 ** 39), ("edge", 0, 1, 2),
                   ("vertex", (0,) * 2000), "out", "cut", "edge", ("out", helper.nested(25)), ("vertex", helper.nested(25))]
        for value in helper.ANY_VALUES + helper.NO_GRAPHS + strange:
            self.assertIs(is_change(value), False, repr(value))


class Changed(unittest.TestCase):
    def test_all_changes_of_many_graphs(self):
        kinds = set()
        for graph in SOME:
            for change in helper.all_changes():
                told = helper.led_on(graph, change)
                kinds.add((change[0], told is None))
                if told is None:
                    with self.assertRaises(Unfit) as caught:
                        changed(graph, change)
                    self.assertIs(caught.exception.given, change)
                else:
                    self.assertEqual(changed(graph, change), told, (graph, change))
        self.assertEqual(len(kinds), 8)

    def test_by_name(self):
        self.assertEqual(changed(change=("edge", 0, 2), graph=(3, ((0, 1), (1, 2)))), (3, ((0, 1), (0, 2), (1, 2))))
        self.assertEqual(changed(change=("vertex", (0, 2)), graph=(3, ((1, 2),))), (4, ((0, 3), (1, 2), (2, 3))))
        self.assertEqual(changed((4, ((0, 1), (0, 3), (2, 3))), ("out", 1)), (3, ((0, 2), (1, 2))))

    def test_what_is_wrong_is_told_in_order(self):
        for graph, change, error, given in [
                ((2, [(0, 1)]), ("out",), InvalidGraph, (2, [(0, 1)])), ((2, ()), ("cut", 1, 0), InvalidChange, ("cut", 1, 0)),
                ((10, ()), ("out", 10), InvalidGraph, (10, ())), ((2, ()), ("out", 9), InvalidChange, ("out", 9)),
                ((2, ()), ("out", 8), Unfit, ("out", 8)), ((2, ()), ("cut", 0, 1), Unfit, ("cut", 0, 1)),
                ((9, ()), ("vertex", ()), Unfit, ("vertex", ())), ((9, ()), ("vertex", (9,)), InvalidChange, ("vertex", (9,))),
                ((2, ()), ("edge", 0, 2), Unfit, ("edge", 0, 2)), ((2, ((0, 1),)), ("edge", 0, 1), Unfit, ("edge", 0, 1))]:
            with self.assertRaises(error) as caught:
                changed(graph, change)
            self.assertEqual(caught.exception.given, given)


class Logs(unittest.TestCase):
    def test_drawn_ones(self):
        for count in (0, 1, 2, 5, 20, 77, 199, 200):
            log, graphs = helper.drawn_log(count, seed=count)
            self.assertEqual(graph_of(log), graphs[-1])
            self.assertEqual(graph_of(log=log), graphs[-1])
            for at in range(0, count, 9):
                self.assertEqual(graph_of(log[:at]), graphs[at])

    def test_all_kinds_of_changes_are_drawn(self):
        log, graphs = helper.drawn_log(200, seed=200)
        self.assertEqual({change[0] for change in log}, {"vertex", "out", "edge", "cut"})
        self.assertLessEqual({3, 4, 5, 6}, {graph[0] for graph in graphs})

    def test_of_more_than_200(self):
        log, _ = helper.drawn_log(201, seed=4)
        for wrong in (log, log * 2, log[:200] + (None,), (None,) * 201):
            self.check_index(wrong, None)
        self.assertEqual(graph_of(log[:200]), helper.drawn_log(200, seed=4)[1][-1])

    def check_index(self, log, index):
        with self.assertRaises(InvalidLog) as caught:
            graph_of(log)
        self.assertIs(type(caught.exception), InvalidLog)
        self.assertEqual(caught.exception.index, index)
        self.assertIs(type(caught.exception.index), type(index))

    def test_what_is_no_tuple(self):
        for value in helper.ANY_VALUES + [list(LOG), {change: True for change in LOG}]:
            if type(value) is not tuple:
                self.check_index(value, None)
            elif value:
                self.check_index(value, 0)

    def test_bent_at_a_place(self):
        for count in (4, 30, 200):
            log, graphs = helper.drawn_log(count, seed=count + 1)
            for at in range(0, count, max(1, count // 15)):
                misfits = [change for change in helper.all_changes() if helper.led_on(graphs[at], change) is None]
                wrong = [None, (), [], list(log[at]), ("out", 9), ("out", True), ("cut", 1, 0), log[at] + (0,), "out",
                         helper.Odd(), ("vertex", [])] + misfits[::50]
                for change in wrong:
                    self.check_index(log[:at] + (change,) + log[at + 1:], at)
                    # Of several wrong ones the first is told.
                    self.check_index(log[:at] + (change,) + (None,) * (count - at - 1), at)

    def test_a_change_less_makes_a_later_one_wrong(self):
        self.check_index(LOG[1:], 0)
        self.check_index(LOG[:1] + LOG[2:], 1)
        self.assertEqual(graph_of(LOG[:2] + LOG[3:]), (2, ()))
        self.check_index(LOG + LOG[-1:], 4)


class LogsOf(unittest.TestCase):
    def test_they_lead_back(self):
        for graph in SOME + helper.small_graphs() + helper.extreme_graphs():
            log = log_of(graph)
            told = tuple(("vertex", tuple(lesser for lesser in range(vertex) if (lesser, vertex) in graph[1]))
                         for vertex in range(graph[0]))
            self.assertEqual(log, told)
            self.assertEqual(graph_of(log), graph)
            self.assertEqual(log_of(graph=graph), log)


class Cutsets(unittest.TestCase):
    def test_each_triple_of_small_graphs(self):
        for graph in [graph for many in range(4) for graph in helper.all_graphs(many)] + [helper.round_of(4)]:
            told = helper.cutsets_of(graph)
            lots = helper.lots_of(graph)
            for value in product(lots, repeat=3):
                self.assertIs(is_clique_cutset(graph, value), value in told, (graph, value))

    def test_each_parting_of_greater_graphs(self):
        for graph in [HOUSE, FIVE, DOUBLED, helper.graph_with(6, [(0, 1), (2, 3), (4, 5)])] + helper.scattered(6, 4):
            told = helper.cutsets_of(graph)
            for sides in product(range(3), repeat=graph[0]):
                value = tuple(tuple(vertex for vertex in range(graph[0]) if sides[vertex] == side) for side in range(3))
                self.assertIs(is_clique_cutset(graph, value), value in told, (graph, value))

    def test_bent_values(self):
        for graph in CUT[30::17]:
            told = helper.cutsets_of(graph)
            for right in told[:1] + told[-1:]:
                self.assertIs(is_clique_cutset(value=right, graph=graph), True)
                for value in helper.bent(right):
                    self.assertIs(is_clique_cutset(graph, value), helper.is_among(value, told), (graph, value))

    def test_values_of_any_kind(self):
        right = ((1, 2), (0, 3), (4,))
        strange = [list(right), right[:2], right + ((),), right[::-1], ((1, 2), (4,), (0, 3)), ([1, 2], (0, 3), (4,)),
                   ((1, 2), (0, 3), [4]), ((True, 2), (0, 3), (4,)), ((1, 2), (False, 3), (4,)), ((2, 1), (0, 3), (4,)),
                   ((1, 2), (0, 3), ("4",)), ((1, 2), (0, 3), (None,)), ((1, 2), (0, 3), None), ((1, 2), (0, 3), (helper.Odd(),)),
                   (helper.Odd(),) * 3, ((1, 2), (0, 3), (5,)), ((1, 2), (0, 3), (10 ** 39,)), "abc", ((1, 2), (0, 3), "4")]
        for value in helper.ANY_VALUES + strange:
            self.assertIs(is_clique_cutset(HOUSE, value), False, repr(value))
            self.assertIs(is_clique_cutset((0, ()), value), False, repr(value))
        self.assertIs(is_clique_cutset(HOUSE, right), True)
        self.assertIs(is_clique_cutset((2, ()), ((), (0,), (1,))), True)

    def test_none_exactly_where_there_is_none(self):
        kinds = set()
        for graph in CUT:
            told, answer = helper.cutsets_of(graph), clique_cutset(graph)
            self.assertEqual(clique_cutset(graph=graph), answer)
            if told:
                self.assertTrue(helper.is_among(answer, told), graph)
                self.assertEqual(answer[0], told[0][0])
            else:
                self.assertIsNone(answer, graph)
            several = pieces_of(graph, range(graph[0])) > 1
            if several:
                self.assertEqual(answer[0], ())
            kinds.add((several, bool(told)))
        self.assertEqual(kinds, {(True, True), (False, True), (False, False)})

    def test_greater_graphs_beside_pieces(self):
        for graph in helper.scattered(9, 40) + helper.odd_rounds_and_kin() + helper.extreme_graphs() + helper.even_rounds():
            answer = clique_cutset(graph)
            told = [lot for lot in helper.cliques_of(graph) if pieces_of(graph, set(range(graph[0])) - set(lot)) > 1]
            self.assertEqual(answer[0] if answer else None, min(told) if told else None, graph)
            if answer:
                self.assertIs(is_clique_cutset(graph, answer), True)


class Parts(unittest.TestCase):
    def test_induced_by_the_clique_with_each_side(self):
        for graph in CUT:
            for cutset in helper.cutsets_of(graph)[:6]:
                clique, one, other = cutset
                told = tuple(helper.induced_by(graph, tuple(sorted(clique + side))) for side in (one, other))
                self.assertEqual(parts_of(graph, cutset), told)
                self.assertEqual(parts_of(cutset=cutset, graph=graph), told)

    def test_perfect_exactly_if_both_parts_are(self):
        answers = set()
        for graph in CUT + helper.odd_rounds_and_kin() + helper.scattered(9, 20):
            cutset = clique_cutset(graph)
            if cutset is not None:
                parts = parts_of(graph, cutset)
                is_perfect = not helper.odd_rounds_of(graph)
                self.assertEqual(is_perfect, not any(helper.odd_rounds_of(part) for part in parts))
                for number in (helper.greatest_clique_of, helper.chromatic_number_of):
                    self.assertEqual(number(graph), max(map(number, parts)))
                answers.add(is_perfect)
        self.assertEqual(answers, {True, False})

    def test_other_values_are_refused(self):
        right = clique_cutset(HOUSE)
        for value in helper.bent(right) + [((1, 2), (4,), (0, 3)), ((), (0, 1, 2, 3), (4,)), ((0, 2), (1,), (3, 4))]:
            if not helper.is_among(value, helper.cutsets_of(HOUSE)):
                with self.assertRaises(InvalidCutset) as caught:
                    parts_of(HOUSE, value)
                self.assertIs(caught.exception.given, value)


if __name__ == "__main__":
    unittest.main()
