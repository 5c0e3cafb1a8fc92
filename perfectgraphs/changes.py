"""CHANGEs of graphs, LOGs of them, and CLIQUE CUTSETs."""

from perfectgraphs.cliques import clique_masks, is_clique
from perfectgraphs.errors import InvalidChange, InvalidCutset, InvalidLog, Unfit
from perfectgraphs.graphs import MOST_VERTICES, check_graph, induced, is_ascending, is_lot, is_whole
from perfectgraphs.graphs import lot_of, mask_of, neighbour_masks

MOST_CHANGES = 200
EMPTY = (0, ())
# How long a change of each kind is.
LENGTHS = {"vertex": 2, "out": 2, "edge": 3, "cut": 3}


def is_change(value):
    """Whether the value, whatever it is, is a CHANGE."""
    if type(value) is not tuple or not value or type(value[0]) is not str:
        return False
    if LENGTHS.get(value[0]) != len(value):
        return False
    kind, *rest = value
    numbers = rest[0] if kind == "vertex" else tuple(rest)
    if type(numbers) is not tuple:
        return False
    return all([is_whole(number, 0, MOST_VERTICES - 1) for number in numbers]) and is_ascending(numbers)


def does_fit(graph, change):
    """Whether the CHANGE fits the GRAPH."""
    many, edges = graph
    kind, *rest = change
    if kind == "vertex":
        return many < MOST_VERTICES and is_lot(graph, rest[0])
    if kind == "out":
        return rest[0] < many
    if kind == "edge":
        return is_lot(graph, tuple(rest)) and tuple(rest) not in edges
    return tuple(rest) in edges


def changed(graph, change):
    """The graph behind the change."""
    check_change(graph, change)
    return _led_on(graph, change)


def check_change(graph, change):
    """Refuses what is no GRAPH, then what is no CHANGE, then one that does not fit the graph."""
    check_graph(graph)
    if not is_change(change):
        raise InvalidChange(change)
    if not does_fit(graph, change):
        raise Unfit(change)


def _led_on(graph, change):
    """The graph behind a change that fits it."""
    many, edges = graph
    kind, *rest = change
    if kind == "out":
        return induced(graph, tuple([vertex for vertex in range(many) if vertex != rest[0]]))
    if kind == "cut":
        return (many, tuple([edge for edge in edges if edge != tuple(rest)]))
    if kind == "edge":
        return (many, tuple(sorted(edges + (tuple(rest),))))
    more = tuple([(vertex, many) for vertex in rest[0]])
    return (many + 1, tuple(sorted(edges + more)))


def graph_of(log):
    """The graph to which the log leads from the one without vertices."""
    if type(log) is not tuple or len(log) > MOST_CHANGES:
        raise InvalidLog(None)
    graph = EMPTY
    for index, change in enumerate(log):
        if not is_change(change) or not does_fit(graph, change):
            raise InvalidLog(index)
        graph = _led_on(graph, change)
    return graph


def is_log(value):
    """Whether the value, whatever it is, is a LOG."""
    try:
        graph_of(value)
    except InvalidLog:
        return False
    return True


def log_of(graph):
    """The log of vertices alone that leads to the graph, each adjacent to those of lesser numbers."""
    check_graph(graph)
    many, edges = graph
    lots = [tuple([lesser for lesser, greater in edges if greater == vertex]) for vertex in range(many)]
    return tuple([("vertex", lot) for lot in lots])


def is_clique_cutset(graph, value):
    """Whether the value, whatever it is, is a CLIQUE CUTSET of the graph."""
    check_graph(graph)
    if type(value) is not tuple or len(value) != 3 or not all([is_lot(graph, lot) for lot in value]):
        return False
    clique, one, other = value
    if not one or not other or one[0] > other[0] or not is_clique(graph, clique):
        return False
    if sorted(clique + one + other) != list(range(graph[0])):
        return False
    return not any([(near in one and far in other) or (near in other and far in one) for near, far in graph[1]])


def clique_cutset(graph):
    """Any CLIQUE CUTSET of the graph; None.

    Its CLIQUE is the first one, compared as tuples, that any of them has.
    """
    check_graph(graph)
    neighbours = neighbour_masks(graph)
    whole = (1 << graph[0]) - 1
    for clique in sorted([lot_of(mask) for mask in clique_masks(neighbours)]):
        left = whole ^ mask_of(clique)
        piece = _first_piece(neighbours, left)
        if piece != left:
            return (clique, lot_of(piece), lot_of(left ^ piece))
    return None


def _first_piece(neighbours, mask):
    """The mask of the vertices to which edges lead from the least one of the mask, within it."""
    piece = 0
    reached = mask & -mask
    while reached != piece:
        piece = reached
        for vertex in lot_of(piece):
            reached |= neighbours[vertex] & mask
    return piece


def parts_of(graph, cutset):
    """The pair of the parts of the CLIQUE CUTSET."""
    if not is_clique_cutset(graph, cutset):
        raise InvalidCutset(cutset)
    clique, one, other = cutset
    return (induced(graph, _together(clique, one)), induced(graph, _together(clique, other)))


def _together(lot, more):
    return tuple(sorted(lot + more))
