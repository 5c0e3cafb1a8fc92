"""The console beside one written otherwise: each line by its pattern, each answer by a search."""

import re
import unittest
from functools import lru_cache

import helper
from helper import DOUBLED, FIVE, HOUSE
from perfectgraphs.changes import graph_of, log_of
from perfectgraphs.console import fresh_console, said, told_all
from perfectgraphs.errors import InvalidLine, InvalidSign
from perfectgraphs.fractions import fractional_number
from perfectgraphs.texts import from_graph6, graph6, print_graph, read_graph

UNKNOWN = "not understood"


def words_of(lot):
    return " ".join(map(str, lot)) or "none"


def size_of(graph):
    return f"{graph[0]} vertices, {len(graph[1])} edges"


def perfect_of(graph):
    for word, holes in (("hole", helper.holes_of(graph)), ("antihole", helper.holes_of(helper.opposite(graph)))):
        odd = [hole for hole in holes if len(hole) % 2]
        if odd:
            return f"not perfect: {word} {words_of(odd[0])}"
    return "perfect"


@lru_cache(maxsize=None)
def corners_of(graph):
    if graph[0] > 6:
        return "too many"
    rows = helper.corners_told(graph)
    whole = sum(set(row) <= {(0, 1), (1, 1)} for row in rows)
    return f"{whole} whole, {len(rows) - whole} not"


@lru_cache(maxsize=None)
def cutset_of(graph):
    """The CLIQUE of the first cutset: the first clique without which not all vertices hang together."""
    many, edges = graph
    for lot in sorted(helper.cliques_of(graph)):
        left = [vertex for vertex in range(many) if vertex not in lot]
        reached = set(left[:1])
        for _ in left:
            reached |= {vertex for edge in edges if set(edge) & reached for vertex in edge if vertex in left}
        if len(reached) < len(left):
            return words_of(lot)
    return "no cutset"


def heavy_of(graph, words):
    weights = tuple(map(int, words))
    if len(weights) != graph[0] or max(weights, default=0) > 1000000:
        return "no weights"
    n, m = fractional_number(graph, weights)
    return f"{helper.heaviest_of(graph, weights)} " + (f"{n}" if m == 1 else f"{n}/{m}")


def kernels_of(graph, words):
    arcs = [(int(word[0]), int(word[1])) for word in words]
    if len(set(arcs)) < len(arcs) or {frozenset(arc) for arc in arcs} != set(map(frozenset, graph[1])):
        return "no orientation"
    return "\n".join(map(words_of, helper.kernels_told(graph, arcs))) or "no kernel"


QUESTIONS = {
    "print": lambda graph: print_graph(graph)[:-1],
    "code": graph6,
    "numbers": lambda graph: (f"{helper.greatest_clique_of(graph)} {helper.greatest_stable_of(graph)} "
                              f"{helper.chromatic_number_of(graph)}"),
    "holes": lambda graph: "\n".join(map(words_of, helper.holes_of(graph))) or "none",
    "antiholes": lambda graph: "\n".join(map(words_of, helper.holes_of(helper.opposite(graph)))) or "none",
    "perfect": perfect_of,
    "corners": corners_of,
    "cutsets": cutset_of,
}


def change_of(line):
    """The change that the line tells; None."""
    if not re.fullmatch("vertex( [0-8])*|out [0-8]|(edge|cut) [0-8] [0-8]", line):
        return None
    kind, *words = line.split(" ")
    numbers = tuple(map(int, words))
    if list(numbers) != sorted(set(numbers)):
        return None
    return (kind, numbers) if kind == "vertex" else (kind,) + numbers


def told(log, line):
    """(LOG, ANSWER) by the words of the document."""
    graph = graph_of(log)
    change = change_of(line)
    if change is not None:
        behind = helper.led_on(graph, change)
        if behind is None:
            return log, "does not fit"
        return (log, "full") if len(log) == 200 else (log + (change,), size_of(behind))
    if line == "undo":
        return (log[:-1], size_of(graph_of(log[:-1]))) if log else (log, "nothing there")
    if line[:6] == "graph ":
        try:
            graph = read_graph("\n".join(line[6:].split(" ; ")) + "\n")
        except InvalidLine as error:
            return log, "not read" if error.index is None else f"not read in line {error.index}"
        return log_of(graph), size_of(graph)
    if line[:7] == "graph6 ":
        try:
            graph = from_graph6(line[7:])
        except InvalidSign as error:
            return log, f"not read at {error.index}"
        return log_of(graph), size_of(graph)
    if line in QUESTIONS:
        return log, QUESTIONS[line](graph)
    if re.fullmatch("heavy( (0|[1-9][0-9]{0,6}))*", line):
        return log, heavy_of(graph, line.split(" ")[1:])
    if re.fullmatch("kernels( [0-8][0-8])*", line):
        return log, kernels_of(graph, line.split(" ")[1:])
    return log, UNKNOWN


def graph_line(graph):
    return "graph " + print_graph(graph)[:-1].replace("\n", " ; ")


def line_of(change):
    return " ".join([change[0]] + [str(number) for part in change[1:] for number in (part if type(part) is tuple else (part,))])


def drawn_line(draws, graph):
    """A line of any kind, mostly one that fits the graph."""
    kind = draws.below(12)
    if kind < 5:
        return line_of(helper.drawn_changes(1, draws.below(10 ** 6))[0])
    if kind == 5:
        return "undo"
    if kind == 6:
        other = helper.graph_by(draws.below(7), draws.below(2 ** 15))
        return graph_line(other) if draws.below(2) else "graph6 " + graph6(other)
    if kind < 9:
        return sorted(QUESTIONS)[draws.below(len(QUESTIONS))]
    if kind == 9:
        many = graph[0] + (draws.below(8) == 0)
        return " ".join(["heavy"] + [str(draws.below(10 ** draws.below(5))) for _ in range(many)])
    if kind == 10:
        ways = [(one, two) if draws.below(3) else (two, one) for one, two in graph[1]]
        ways.extend((two, one) for one, two in ways if not draws.below(6))
        return " ".join(["kernels"] + [f"{one}{two}" for one, two in draws.shuffled(ways)])
    line = drawn_line(draws, graph)
    at = draws.below(len(line) + 1)
    return line[:at] + " 0189xV;\n"[draws.below(9)] + line[at + draws.below(2):]


class ConsoleCase(unittest.TestCase):
    def check(self, console, line):
        answer = said(console, line)
        self.assertTrue(helper.is_among(answer, [told(console, line)]), (console, line, answer, told(console, line)))
        return answer[0]

    def answers(self, graph, *lines):
        return [said(log_of(graph), line)[1] for line in lines]


class Session(ConsoleCase):
    LINES = ("graph vertices 5 ; cycle 0 1 2 3 ; clique 1 2 4", "code", "perfect", "numbers", "heavy 4 1 1 5 3", "corners",
             "cutsets", "cut 1 2", "perfect", "undo")

    def test_answers(self):
        console, answers = told_all(fresh_console(), self.LINES)
        self.assertEqual(answers, (
            "5 vertices, 6 edges", "DlW", "perfect", "3 2 3", "9 9", "10 whole, 0 not", "1 2", "5 vertices, 5 edges",
            "not perfect: hole 0 1 4 2 3", "5 vertices, 6 edges"))
        self.assertEqual(
            [said(console, line)[1] for line in (
                "kernels 01 03 12 14 23 24", "kernels 01", "out 7", "graph6 DlX", "heavy 1 2", "holes")],
            ["3 4", "no orientation", "does not fit", "not read at 2", "no weights", "0 1 2 3"])


class Consoles(ConsoleCase):
    def test_the_fresh_one(self):
        self.assertEqual(fresh_console(), ())
        self.assertIs(type(fresh_console()), tuple)
        lines = ["print", "code", "numbers", "holes", "antiholes", "perfect", "heavy", "corners", "cutsets", "kernels", "undo"]
        self.assertEqual([said(fresh_console(), line) for line in lines], [((), answer) for answer in (
            "vertices 0", "?", "0 0 0", "none", "none", "perfect", "0 0", "1 whole, 0 not", "no cutset", "none", "nothing there")])

    def test_drawn_lines(self):
        seen = set()
        for seed in range(60):
            draws, console, lines = helper.Draws(seed), fresh_console(), []
            for _ in range(40):
                lines.append(drawn_line(draws, graph_of(console)))
                before, console = console, self.check(console, lines[-1])
                seen.add((lines[-1].split(" ")[0], before == console))
            whole = told_all(fresh_console(), tuple(lines))
            self.assertEqual(whole[0], console)
            self.assertEqual(told_all(lines=tuple(lines), console=fresh_console()), whole)
            self.assertEqual(len(whole[1]), 40)
        changing = ("vertex", "out", "edge", "cut", "undo", "graph", "graph6")
        self.assertLessEqual({(word, stays) for word in changing for stays in (True, False)}, seen)

    def test_questions_of_many_graphs(self):
        for graph in helper.small_graphs()[::6] + [HOUSE, FIVE, DOUBLED] + helper.odd_rounds_and_kin()[::9] + helper.scattered(6, 6):
            console = log_of(graph)
            for line in sorted(QUESTIONS):
                if line != "corners" or graph[0] < 6:
                    self.assertEqual(self.check(console, line), console)
            for weights in helper.weights_for(graph[0], 6):
                self.check(console, " ".join(["heavy"] + [str(weight) for weight in weights]))
            for arcs in helper.some_orientations(graph, 5):
                draws = helper.Draws(len(arcs))
                self.check(console, " ".join(["kernels"] + [f"{one}{two}" for one, two in draws.shuffled(arcs)]))

    def test_by_name(self):
        console = said(line="vertex", console=fresh_console())[0]
        self.assertEqual(said(line="vertex 0", console=console), (console + (("vertex", (0,)),), "2 vertices, 1 edges"))

    def test_a_console_stays_where_it_was(self):
        console = log_of(HOUSE)
        said(console, "out 0")
        self.assertEqual(console, log_of(HOUSE))
        self.assertEqual(said(console, "code"), (console, "DlW"))


class Changes(ConsoleCase):
    def test_right_ones(self):
        for graph in [(0, ()), HOUSE, FIVE, (9, ()), helper.opposite((9, ())), helper.round_of(8)]:
            console = log_of(graph)
            for change in helper.all_changes()[::5]:
                self.check(console, line_of(change))

    def test_what_is_not_understood(self):
        lines = [
            "vertex ", " vertex", "vertex  0", "vertex 0 ", "vertex 1 0", "vertex 0 0", "vertex 9", "vertex 10", "vertex 0,1", "vertex x",
            "vertex -1", "vertex 01", "vertices", "Vertex", "vertex\t0", "vertex\n", "vertex 0\n", "vertex 0 1 2 2", "vertex \u0661",
            "out", "out ", "out 9", "out 12", "out 1 2", "out  1", " out 1", "out 1 ", "out x", "out -1", "out 01", "out 1\n", "Out 1",
            "edge", "edge 1", "edge 1 0", "edge 1 1", "edge 0 1 2", "edge 0  1", "edge 0 9", "edge 0 1 ", " edge 0 1", "edge  0 1", "edge 01",
            "edge 0 x", "edge 0,1", "cut", "cut 0", "cut 1 0", "cut 2 2", "cut 0 1 2", "cut 0  1", "cut 0 9", "cut 0 1 ", "cut 00 1",
            "undo ", " undo", "undo 1", "Undo", "undo\n", "undone", "", " ", "  ", "\n", "#", ";", "add 0 1", "hole", "edges 0 1",
        ]
        for graph in ((0, ()), HOUSE):
            for line in lines:
                self.assertEqual(said(log_of(graph), line), (log_of(graph), UNKNOWN), repr(line))
                self.check(log_of(graph), line)

    def test_what_does_not_fit(self):
        for graph, line in ((HOUSE, "out 5"), (HOUSE, "edge 0 1"), (HOUSE, "cut 0 2"), (HOUSE, "edge 0 5"), (HOUSE, "vertex 5"),
                            ((0, ()), "out 0"), ((0, ()), "vertex 0"), ((9, ()), "vertex"), ((9, ()), "vertex 0 1"), ((0, ()), "edge 0 1"),
                            (HOUSE, "vertex 0 1 8"), (HOUSE, "cut 7 8")):
            self.assertEqual(said(log_of(graph), line), (log_of(graph), "does not fit"), line)

    def test_undo(self):
        log, graphs = helper.drawn_log(30, 8)
        console = log
        for at in range(29, -1, -1):
            console, answer = said(console, "undo")
            self.assertEqual((console, answer), (log[:at], size_of(graphs[at])))
        self.assertEqual(said(console, "undo"), ((), "nothing there"))

    def test_a_full_console(self):
        log, graphs = helper.drawn_log(200, 9)
        fitting = [change for change in helper.all_changes() if helper.led_on(graphs[200], change)]
        self.assertEqual({change[0] for change in fitting}, {"vertex", "out", "edge", "cut"})
        for change in fitting[::9] + fitting[-9:]:
            self.assertEqual(said(log, line_of(change)), (log, "full"))
            self.assertEqual(said(log[:199], line_of(helper.all_changes()[0]))[1], size_of(
                helper.led_on(graphs[199], helper.all_changes()[0])))
        for change in helper.all_changes()[::9]:
            if change not in fitting:
                self.assertEqual(said(log, line_of(change)), (log, "does not fit"))
        for line in sorted(QUESTIONS) + ["edge 1 0", "heavy", "kernels", "graph x", "graph6 x", "undo "]:
            self.assertEqual(self.check(log, line), log)
        self.assertEqual(said(log, "undo"), (log[:199], size_of(graphs[199])))
        for line in (graph_line(HOUSE), "graph6 DlW"):
            self.assertEqual(said(log, line), (log_of(HOUSE), "5 vertices, 6 edges"))
        self.assertEqual(said(log[:199], line_of(log[199])), (log, size_of(graphs[200])))


class Texts(ConsoleCase):
    def test_graphs(self):
        for graph in helper.small_graphs()[::3] + [HOUSE, FIVE, DOUBLED] + helper.extreme_graphs():
            for console in (fresh_console(), log_of(HOUSE)):
                self.assertEqual(said(console, graph_line(graph)), (log_of(graph), size_of(graph)))
                self.assertEqual(said(console, "graph6 " + graph6(graph)), (log_of(graph), size_of(graph)))

    def test_what_the_text_may_be(self):
        texts = {
            "vertices 3": "3 vertices, 0 edges", " vertices 3": "3 vertices, 0 edges", "vertices 3 ": "3 vertices, 0 edges",
            "vertices 3 ; edge 0 2": "3 vertices, 1 edges", "vertices 3\nedge 0 2": "3 vertices, 1 edges",
            "vertices 3 ; ": "3 vertices, 0 edges", " ; vertices 3": "3 vertices, 0 edges", " ;  ; vertices 3 ;  ; ": "3 vertices, 0 edges",
            "vertices 3 # a ; edge 0 1": "3 vertices, 1 edges", "# a ; vertices 3 # b": "3 vertices, 0 edges",
            "vertices 3\n": "3 vertices, 0 edges", "vertices 3 ;": "not read in line 0", "; vertices 3": "not read in line 0",
            "vertices 3;edge 0 1": "not read in line 0", "vertices 3 ; edge 0 1 ; ; edge 1 2": "not read in line 2",
            "vertices 3 ; edge 0 3": "not read in line 1", "vertices 3 ; ; edge 0 1": "not read in line 1", "": "not read in line 1",
            " ": "not read in line 1", "#": "not read in line 1", " ; ": "not read in line 2", "edge 0 1": "not read in line 0",
            "vertices 10": "not read in line 0", "vertices 3 ; edge 1 1": "not read in line 1", "vertices": "not read in line 0",
            "vertices 3\tx": "not read in line 0", "print": "not read in line 0",
            "vertices 3 ; " + "#" * 3983 + " ": "3 vertices, 0 edges", "vertices 1#" + "x" * 3988: "1 vertices, 0 edges",
            "vertices 1#" + "x" * 3989: "not read", "vertices 1" + " ; " * 1994: "1 vertices, 0 edges", "x" * 5000: "not read",
            "vertices 1" + " ; " * 3989: "1 vertices, 0 edges", "vertices 1" + " ; " * 3990: "not read",
        }
        for text, answer in texts.items():
            log = log_of(HOUSE)
            self.assertEqual(said(log, "graph " + text)[1], answer, repr(text[:40]))
            self.assertIs(said(log, "graph " + text)[0] == log, answer.startswith("not read"))
            self.check(log, "graph " + text)

    def test_codes(self):
        codes = {
            "": 0, " ": 0, "DlX": 2, "DlW ": 3, " DlW": 0, "I": 0, "H": 1, "D": 1, "Dl": 2, "DlWW": 3, "dlW": 0, "Dl\n": 2, "\n": 0, "A`": 1,
            "DlW\n": 3, "\u0391": 0, "~": 0,
        }
        for text, index in codes.items():
            self.assertEqual(said((), "graph6 " + text), ((), f"not read at {index}"), repr(text))
            self.check(log_of(HOUSE), "graph6 " + text)
        self.assertEqual(said((), "graph6 ?"), ((), "0 vertices, 0 edges"))
        self.assertEqual(said((), "graph6 DlW"), (log_of(HOUSE), "5 vertices, 6 edges"))

    def test_near_to_them(self):
        for line in ("graph", "graph6", " graph vertices 3", "Graph vertices 3", "graph\tvertices 3", "graph\nvertices 3", "graph6\nDlW",
                     "graph7 DlW", "graph6DlW", "graphs vertices 3", " graph6 DlW", "GRAPH6 DlW"):
            for console in ((), log_of(HOUSE)):
                self.assertEqual(said(console, line), (console, UNKNOWN), repr(line))
        self.assertEqual(said((), "graph  vertices 3")[1], "3 vertices, 0 edges")
        self.assertEqual(said((), "graph6  DlW")[1], "not read at 0")

    def test_the_console_is_the_log_of_the_graph(self):
        console = told_all((), ("vertex", "vertex 0", "cut 0 1", "graph vertices 3 ; path 0 2 1"))[0]
        self.assertEqual(console, (("vertex", ()), ("vertex", ()), ("vertex", (0, 1))))
        self.assertEqual(said(console, "undo"), (console[:2], "2 vertices, 0 edges"))


class Questions(ConsoleCase):
    def test_near_to_them(self):
        for word in sorted(QUESTIONS):
            for line in (word + " ", " " + word, word + " 0", word + "\n", word.upper(), word + "s", word[:-1], word + "  "):
                self.assertEqual(said(log_of(HOUSE), line), (log_of(HOUSE), UNKNOWN), repr(line))

    def test_answers_of_several_lines(self):
        square = helper.round_of(4)
        twice = (8, square[1] + tuple((one + 4, two + 4) for one, two in square[1]))
        self.assertEqual(self.answers(twice, "holes", "print", "numbers"), [
            "0 1 2 3\n4 5 6 7", "vertices 8\n" + "\n".join(f"edge {one} {two}" for one, two in twice[1]), "2 4 2"])
        self.assertEqual(self.answers(square, "kernels 01 12 23 30", "kernels 12 03 32 10"), ["0 2\n1 3", "0 2"])
        self.assertEqual(self.answers(DOUBLED, "holes", "antiholes"), ["0 1 2 3 4\n0 1 2 3 5", "0 2 4 1 3\n0 2 5 1 3\n1 4 2 5"])

    def test_perfect(self):
        seven = helper.opposite(helper.round_of(7))
        self.assertEqual(self.answers(seven, "perfect", "corners"), ["not perfect: antihole 0 1 2 3 4 5 6", "too many"])
        self.assertEqual(self.answers(DOUBLED, "perfect", "corners"), ["not perfect: hole 0 1 2 3 4", corners_of(DOUBLED)])
        self.assertEqual(self.answers((9, ()), "perfect", "antiholes", "numbers"), ["perfect", "none", "1 9 1"])

    def test_cutsets(self):
        for graph in [HOUSE, FIVE, DOUBLED, (2, ()), (1, ()), helper.opposite((9, ()))] + helper.scattered(6, 20) + helper.scattered(7, 8):
            rows = helper.cutsets_of(graph) if graph[0] < 9 else []
            self.assertEqual(self.answers(graph, "cutsets"), [words_of(rows[0][0]) if rows else "no cutset"], graph)
        self.assertEqual(self.answers((2, ()), "cutsets"), ["none"])
        self.assertEqual(self.answers(helper.graph_with(4, [(0, 3), (3, 1), (3, 2)]), "cutsets"), ["0 3"])

    def test_corners(self):
        self.assertEqual(self.answers(FIVE, "corners"), ["11 whole, 1 not"])
        self.assertEqual(self.answers((6, ()), "corners"), ["64 whole, 0 not"])
        self.assertEqual(self.answers((7, ()), "corners"), ["too many"])
        for graph in helper.small_graphs()[::9] + [HOUSE, DOUBLED]:
            self.assertEqual(self.answers(graph, "corners"), [corners_of(graph)])

    def test_heavy(self):
        five = {
            "heavy 1 1 1 1 1": "2 5/2", "heavy 0 0 0 0 0": "0 0", "heavy 2 2 2 2 2": "4 5", "heavy 1 1 1 1 0": "2 2",
            "heavy 1000000 1000000 1000000 1000000 1000000": "2000000 2500000", "heavy 1000000 0 0 0 999999": "1999999 1999999",
            "heavy 1000001 0 0 0 0": "no weights", "heavy 9999999 0 0 0 0": "no weights", "heavy": "no weights", "heavy 1": "no weights",
            "heavy 1 1 1 1": "no weights", "heavy 1 1 1 1 1 1": "no weights", "heavy 1000001": "no weights",
            "heavy 10000000 0 0 0 0": UNKNOWN, "heavy 01 1 1 1 1": UNKNOWN, "heavy 00 1 1 1 1": UNKNOWN, "heavy -1 1 1 1 1": UNKNOWN,
            "heavy 1 1 1 1 1 ": UNKNOWN, "heavy 1 1  1 1 1": UNKNOWN, "heavy ": UNKNOWN, "heavy +1 1 1 1 1": UNKNOWN, "heavy 1_0 1 1 1 1": UNKNOWN,
            "heavy 1/2 1 1 1 1": UNKNOWN, "heavy x": UNKNOWN, "heavy 1 1 1 1 \u0661": UNKNOWN, "heavy 1 1 1 1 \u00b2": UNKNOWN, " heavy 1 1 1 1 1": UNKNOWN,
            "heavy 1 1 1 1 1\n": UNKNOWN, "heavy\n": UNKNOWN, "Heavy 1 1 1 1 1": UNKNOWN, "heavy 0000000 1 1 1 1": UNKNOWN, "heavy 1.0": UNKNOWN,
        }
        for line, answer in five.items():
            self.assertEqual(said(log_of(FIVE), line), (log_of(FIVE), answer), line)
            self.check(log_of(FIVE), line)
        self.assertEqual(self.answers((0, ()), "heavy", "heavy 0", "heavy "), ["0 0", "no weights", UNKNOWN])

    def test_kernels(self):
        lines = {
            "kernels 01 12 23 34 40": "no kernel", "kernels 40 34 23 12 01": "no kernel", "kernels 01 10 12 23 34 40": "0 3",
            "kernels 01 12 23 34 40 01": "no orientation", "kernels 01 01 12 23 34": "no orientation", "kernels": "no orientation",
            "kernels 01 12 23 34": "no orientation", "kernels 01 12 23 34 40 02": "no orientation", "kernels 00": "no orientation",
            "kernels 78": "no orientation", "kernels 01 12 23 34 40 88": "no orientation", "kernels 09": UNKNOWN, "kernels 91": UNKNOWN,
            "kernels 0 1": UNKNOWN, "kernels 012": UNKNOWN, "kernels 01 12 23 34 4": UNKNOWN, "kernels ": UNKNOWN, "kernels  01": UNKNOWN,
            "kernels 01 ": UNKNOWN, " kernels 01": UNKNOWN, "kernels 0x": UNKNOWN, "kernels -1": UNKNOWN, "kernels 01,12": UNKNOWN,
            "kernels 0\u0661": UNKNOWN, "kernel 01": UNKNOWN, "kernels 01\n": UNKNOWN,
        }
        for line, answer in lines.items():
            self.assertEqual(said(log_of(FIVE), line), (log_of(FIVE), answer), line)
            self.check(log_of(FIVE), line)
        self.assertEqual(self.answers((3, ()), "kernels", "kernels 01"), ["0 1 2", "no orientation"])


class Refused(ConsoleCase):
    def check_index(self, index, call):
        with self.assertRaises(InvalidLine) as caught:
            call()
        self.assertIs(type(caught.exception), InvalidLine)
        self.assertEqual(caught.exception.index, index)

    def test_what_is_no_string(self):
        for value in helper.ANY_VALUES + [["print"], ("print",), b"print", {"print": 1}]:
            if type(value) is not str:
                self.check_index(None, lambda: said((), value))
                self.check_index(0, lambda: told_all((), (value, "print", value)))
                self.check_index(2, lambda: told_all((), ("vertex", "nonsense", value, "print", None)))

    def test_what_is_no_tuple_of_up_to_100(self):
        for value in helper.ANY_VALUES + [["print"], {"print": 1}, "print"]:
            if type(value) is not tuple:
                self.check_index(None, lambda: told_all((), value))
        for lines in (("print",) * 101, (None,) * 101, ("vertex",) * 2000):
            self.check_index(None, lambda: told_all((), lines))
        self.check_index(99, lambda: told_all((), ("print",) * 99 + (0,)))

    def test_a_hundred_lines(self):
        lines = ("vertex", "out 0") * 50
        console, answers = told_all((), lines)
        self.assertEqual(answers, ("1 vertices, 0 edges", "0 vertices, 0 edges") * 50)
        self.assertEqual(len(console), 100)
        console, answers = told_all(console, lines)
        self.assertEqual(len(console), 200)
        self.assertEqual(told_all(console, ("vertex", "out 0", "undo", "vertex", "out 1")), (
            console[:199] + (("vertex", ()),),
            ("full", "does not fit", "1 vertices, 0 edges", "2 vertices, 0 edges", "full")))
        self.assertEqual(told_all(console, ()), (console, ()))


if __name__ == "__main__":
    unittest.main()
