"""Graphs as texts: in lines of words, and in graph6."""

from perfectgraphs.errors import InvalidLine, InvalidSign
from perfectgraphs.graphs import MOST_VERTICES, check_graph

MOST_SIGNS = 4000
DIGITS = "0123456789"
FEWEST_VERTICES = {"edge": 2, "path": 2, "cycle": 3, "clique": 2}
# The ASCII signs from 63 on: the place of a sign is the number that it tells.
SIGNS = "?@ABCDEFGHIJKLMNOPQRSTUVWXYZ[\\]^_`abcdefghijklmnopqrstuvwxyz{|}~"
BITS = 6


def read_graph(text):
    """The graph that the lines of the text tell."""
    if type(text) is not str or len(text) > MOST_SIGNS:
        raise InvalidLine(None)
    *lines, unended = text.split("\n")
    many = None
    edges = []
    for index, line in enumerate(lines):
        words = _words_of(line)
        if words and many is None:
            many = _vertices_told(words)
            if many is None:
                raise InvalidLine(index)
        elif words:
            told = _edges_told(words, many)
            if told is None:
                raise InvalidLine(index)
            edges.extend(told)
    if unended or many is None:
        raise InvalidLine(len(lines))
    return (many, tuple(sorted(set(edges))))


def _words_of(line):
    # Only the blank parts words: split without an argument would part them at tabs, too.
    return [word for word in line.partition("#")[0].split(" ") if word]


def _vertices_told(words):
    """The number of vertices that the words tell; None for words that tell none."""
    if len(words) != 2 or words[0] != "vertices" or not _is_digit(words[1], DIGITS):
        return None
    return DIGITS.index(words[1])


def _edges_told(words, many):
    """The pairs that the words tell of so many vertices; None for words that tell none."""
    kind, *digits = words
    if kind not in FEWEST_VERTICES or len(digits) < FEWEST_VERTICES[kind]:
        return None
    if kind == "edge" and len(digits) > 2:
        return None
    if not all([_is_digit(digit, DIGITS[:many]) for digit in digits]) or len(set(digits)) < len(digits):
        return None
    vertices = [DIGITS.index(digit) for digit in digits]
    if kind == "clique":
        pairs = [(one, other) for one in vertices for other in vertices if one < other]
    else:
        pairs = list(zip(vertices, vertices[1:]))
    if kind == "cycle":
        pairs.append((vertices[-1], vertices[0]))
    return [(min(one, other), max(one, other)) for one, other in pairs]


def _is_digit(word, digits):
    # Several digits in a row are found in the string, too.
    return len(word) == 1 and word in digits


def print_graph(graph):
    """The text of lines that tells the graph."""
    check_graph(graph)
    many, edges = graph
    lines = [f"vertices {many}\n"] + [f"edge {one} {other}\n" for one, other in edges]
    return "".join(lines)


def graph6(graph):
    """The graph6 text of the graph."""
    check_graph(graph)
    many, edges = graph
    bits = [1 if pair in edges else 0 for pair in _pairs_by_greater(many)]
    bits.extend([0] * (_signs_for(len(bits)) * BITS - len(bits)))
    signs = [SIGNS[many]]
    for start in range(0, len(bits), BITS):
        number = 0
        for bit in bits[start:start + BITS]:
            number = number * 2 + bit
        signs.append(SIGNS[number])
    return "".join(signs)


def from_graph6(text):
    """The graph whose graph6 text this is."""
    if type(text) is not str:
        raise InvalidSign(None)
    numbers = [SIGNS.find(sign) for sign in text]
    if not numbers or not 0 <= numbers[0] <= MOST_VERTICES:
        raise InvalidSign(0)
    many, *sixes = numbers
    pairs = _pairs_by_greater(many)
    for at, number in enumerate(sixes):
        if not _can_tell(number, len(pairs) - at * BITS):
            raise InvalidSign(1 + at)
    if len(sixes) < _signs_for(len(pairs)):
        raise InvalidSign(len(text))
    bits = [six >> place & 1 for six in sixes for place in (5, 4, 3, 2, 1, 0)]
    return (many, tuple(sorted([pair for pair, bit in zip(pairs, bits) if bit])))


def _can_tell(number, left):
    """Whether a sign's number, below 0 for no such sign, can stand where so many bits are left to tell."""
    if number < 0 or left <= 0:
        return False
    # The bits behind the last pair are 0.
    spare = max(0, BITS - left)
    return number % (1 << spare) == 0


def _signs_for(bits):
    return (bits + BITS - 1) // BITS


def _pairs_by_greater(many):
    return [(one, other) for other in range(many) for one in range(other)]
