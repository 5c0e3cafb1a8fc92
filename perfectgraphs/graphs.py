"""GRAPHs: how many vertices there are, and the ascending pairs that are adjacent.

Within the package a set of vertices is also a mask: a whole number whose bit V
is 1 if vertex V is in it.
"""

from perfectgraphs.errors import InvalidGraph

MOST_VERTICES = 9


def is_whole(value, low, high):
    """Whether the value is a whole number from low up to high; True and False are none."""
    # bool stands under int, so isinstance would let True and False in.
    return type(value) is int and low <= value <= high


def is_graph(value):
    """Whether the value, whatever it is, is a GRAPH."""
    if not _is_pair(value):
        return False
    many, edges = value
    if not is_whole(many, 0, MOST_VERTICES) or type(edges) is not tuple:
        return False
    # Only pairs of numbers are compared: other values may have no order.
    if not all([_is_edge(edge, many) for edge in edges]):
        return False
    return all([edge < following for edge, following in zip(edges, edges[1:])])


def _is_pair(value):
    return type(value) is tuple and len(value) == 2


def _is_edge(value, many):
    if not _is_pair(value):
        return False
    one, other = value
    return is_whole(one, 0, many - 1) and is_whole(other, 0, many - 1) and one < other


def check_graph(graph):
    """Refuses what is no GRAPH."""
    if not is_graph(graph):
        raise InvalidGraph(graph)


def complement(graph):
    """The graph with the same vertices and just the other pairs as edges."""
    check_graph(graph)
    many, edges = graph
    pairs = [(one, other) for one in range(many) for other in range(one + 1, many)]
    return (many, tuple([pair for pair in pairs if pair not in edges]))


def neighbour_masks(graph):
    """For each vertex of a GRAPH the mask of those adjacent to it."""
    many, edges = graph
    masks = [0] * many
    for one, other in edges:
        masks[one] |= 1 << other
        masks[other] |= 1 << one
    return masks


def lot_of(mask):
    """The lot of the vertices in the mask."""
    return tuple([vertex for vertex in range(mask.bit_length()) if mask >> vertex & 1])
