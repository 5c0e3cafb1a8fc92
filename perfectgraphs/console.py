"""The console: a LOG to which lines are said, and which answers with texts."""

from perfectgraphs.changes import MOST_CHANGES, clique_cutset, does_fit, graph_of, is_change, log_of
from perfectgraphs.cliques import chromatic_number, clique_number, stable_number
from perfectgraphs.errors import InvalidLine, InvalidSign, TooMany
from perfectgraphs.fractions import fractional_number
from perfectgraphs.holes import antiholes, holes, odd_one
from perfectgraphs.orientations import is_orientation, kernels
from perfectgraphs.polytopes import are_whole, corners
from perfectgraphs.texts import DIGITS, from_graph6, graph6, print_graph, read_graph
from perfectgraphs.weights import are_weights, heaviest_clique, weight_of

MOST_LINES = 100
MOST_FIGURES = 7
VERTICES = "012345678"
NOT_UNDERSTOOD = "not understood"


def fresh_console():
    """The console that was told nothing."""
    return ()


def said(console, line):
    """The pair of the console behind the line, and its answer."""
    if type(line) is not str:
        raise InvalidLine(None)
    word, blank, text = line.partition(" ")
    if word == "graph" and blank:
        return _graph_said(console, text)
    if word == "graph6" and blank:
        return _graph6_said(console, text)
    if line == "undo":
        return _behind(console[:-1]) if console else (console, "nothing there")
    words = line.split(" ")
    change = _change_in(words)
    if change is not None:
        return _change_said(console, change)
    return (console, _answer(graph_of(console), words))


def told_all(console, lines):
    """The console behind all lines, and the tuple of the answers."""
    if type(lines) is not tuple or len(lines) > MOST_LINES:
        raise InvalidLine(None)
    for index, line in enumerate(lines):
        if type(line) is not str:
            raise InvalidLine(index)
    answers = []
    for line in lines:
        console, answer = said(console, line)
        answers.append(answer)
    return (console, tuple(answers))


def _graph_said(console, text):
    try:
        graph = read_graph(text.replace(" ; ", "\n") + "\n")
    except InvalidLine as wrong:
        return (console, "not read" if wrong.index is None else f"not read in line {wrong.index}")
    return _behind(log_of(graph))


def _graph6_said(console, text):
    try:
        graph = from_graph6(text)
    except InvalidSign as wrong:
        return (console, f"not read at {wrong.index}")
    return _behind(log_of(graph))


def _behind(console):
    """The console, and how great its graph is."""
    many, edges = graph_of(console)
    return (console, f"{many} vertices, {len(edges)} edges")


def _change_in(words):
    """The CHANGE that the words tell; None."""
    kind, *digits = words
    if not all([_are_vertices(digit, 1) for digit in digits]):
        return None
    numbers = tuple([int(digit) for digit in digits])
    change = (kind, numbers) if kind == "vertex" else (kind,) + numbers
    return change if is_change(change) else None


def _are_vertices(word, many):
    """Whether the word tells so many vertices, a digit each."""
    return len(word) == many and all([sign in VERTICES for sign in word])


def _change_said(console, change):
    if not does_fit(graph_of(console), change):
        return (console, "does not fit")
    if len(console) >= MOST_CHANGES:
        return (console, "full")
    return _behind(console + (change,))


def _printed(graph):
    return print_graph(graph)[:-1]


def _code(graph):
    return graph6(graph)


def _numbers(graph):
    return f"{clique_number(graph)} {stable_number(graph)} {chromatic_number(graph)}"


def _holes(graph):
    return _lots_told(holes(graph), "none")


def _antiholes(graph):
    return _lots_told(antiholes(graph), "none")


def _perfect(graph):
    odd = odd_one(graph)
    if odd is None:
        return "perfect"
    return f"not perfect: {odd[0]} {_lot_told(odd[1])}"


def _corners(graph):
    try:
        found = corners(graph)
    except TooMany:
        return "too many"
    whole = [shares for shares in found if are_whole(shares)]
    return f"{len(whole)} whole, {len(found) - len(whole)} not"


def _cutsets(graph):
    found = clique_cutset(graph)
    return "no cutset" if found is None else _lot_told(found[0])


# The questions of one word.
QUESTIONS = {
    "print": _printed,
    "code": _code,
    "numbers": _numbers,
    "holes": _holes,
    "antiholes": _antiholes,
    "perfect": _perfect,
    "corners": _corners,
    "cutsets": _cutsets,
}


def _answer(graph, words):
    """The answer to a line that leaves the console as it is."""
    word, *rest = words
    if word == "heavy" and all([_is_number(figures) for figures in rest]):
        return _heavy(graph, tuple([int(figures) for figures in rest]))
    if word == "kernels" and all([_are_vertices(pair, 2) for pair in rest]):
        return _kernels(graph, tuple(sorted([(int(pair[0]), int(pair[1])) for pair in rest])))
    if word in QUESTIONS and not rest:
        answer = QUESTIONS[word]
        return answer(graph)
    return NOT_UNDERSTOOD


def _is_number(word):
    """Whether the word is a number of a few figures, without zeros ahead."""
    if not 1 <= len(word) <= MOST_FIGURES or not all([sign in DIGITS for sign in word]):
        return False
    return word == "0" or word[0] != "0"


def _heavy(graph, weights):
    if not are_weights(graph, weights):
        return "no weights"
    n, m = fractional_number(graph, weights)
    fraction = f"{n}" if m == 1 else f"{n}/{m}"
    return f"{weight_of(heaviest_clique(graph, weights), weights)} {fraction}"


def _kernels(graph, arcs):
    # An arc told twice makes the arcs no ascending ones.
    if not is_orientation(graph, arcs):
        return "no orientation"
    return _lots_told(kernels(graph, arcs), "no kernel")


def _lots_told(lots, word):
    """A line for each of the lots; the word for none."""
    return "\n".join([_lot_told(lot) for lot in lots]) if lots else word


def _lot_told(lot):
    return " ".join([str(vertex) for vertex in lot]) if lot else "none"
