"""GRAPHs: how many vertices there are, and the ascending pairs that are adjacent.

Within the package a set of vertices is also a mask: a whole number whose bit V
is 1 if vertex V is in it.
"""

from perfectgraphs.errors import InvalidGraph, InvalidLot, InvalidVertex, TooMany

MOST_VERTICES = 9


def is_whole(value, low, high):
    """Whether the value is a whole number from low up to high; True and False are none."""
    return is_whole_from(value, low) and value <= high


def is_whole_from(value, low):
    """Whether the value is a whole number from low on; True and False are none."""
    # bool stands under int, so isinstance would let True and False in.
    return type(value) is int and value >= low


def is_tuple_of_two(value):
    """Whether the value, whatever it is, is a tuple of two values."""
    return type(value) is tuple and len(value) == 2


def is_ascending(row):
    """Whether each value of the row, all of which have an order, is greater than the one before it."""
    return all([value < following for value, following in zip(row, row[1:])])


def is_graph(value):
    """Whether the value, whatever it is, is a GRAPH."""
    if not is_tuple_of_two(value):
        return False
    many, edges = value
    if not is_whole(many, 0, MOST_VERTICES) or type(edges) is not tuple:
        return False
    # Only pairs of numbers are compared: other values may have no order.
    return all([is_vertex_pair(edge, many) and edge[0] < edge[1] for edge in edges]) and is_ascending(edges)


def is_vertex_pair(value, many):
    """Whether the value, whatever it is, is a pair of vertices, of so many that there are."""
    return is_tuple_of_two(value) and all([is_whole(vertex, 0, many - 1) for vertex in value])


def check_graph(graph):
    """Refuses what is no GRAPH."""
    if not is_graph(graph):
        raise InvalidGraph(graph)


def is_lot(graph, value):
    """Whether the value, whatever it is, is a lot of the graph's vertices."""
    check_graph(graph)
    if type(value) is not tuple:
        return False
    return all([is_whole(vertex, 0, graph[0] - 1) for vertex in value]) and is_ascending(value)


def check_lot(graph, lot):
    """Refuses what is no GRAPH, then what is no lot of its vertices."""
    if not is_lot(graph, lot):
        raise InvalidLot(lot)


def check_vertex(graph, vertex):
    """Refuses what is no GRAPH, then what is no vertex of it."""
    check_graph(graph)
    if not is_whole(vertex, 0, graph[0] - 1):
        raise InvalidVertex(vertex)


def check_size(many, most):
    """Refuses more vertices than the most that are taken on."""
    if many > most:
        raise TooMany()


def are_adjacent(graph, one, other):
    """Whether the two vertices are adjacent; none is adjacent to itself."""
    check_vertex(graph, one)
    check_vertex(graph, other)
    return ordered(one, other) in graph[1]


def ordered(one, other):
    """The pair of both, the lesser one first."""
    return (min(one, other), max(one, other))


def complement(graph):
    """The graph with the same vertices and just the other pairs as edges."""
    check_graph(graph)
    many, edges = graph
    pairs = [(one, other) for one in range(many) for other in range(one + 1, many)]
    return (many, tuple([pair for pair in pairs if pair not in edges]))


def induced(graph, lot):
    """The induced subgraph of the lot, its vertices renumbered in their order."""
    check_lot(graph, lot)
    # The new numbers have the order of the old ones, so the edges stay ascending.
    within = [(lot.index(one), lot.index(other)) for one, other in graph[1] if one in lot and other in lot]
    return (len(lot), tuple(within))


def neighbour_masks(graph):
    """For each vertex of a GRAPH the mask of those adjacent to it."""
    many, edges = graph
    masks = [0] * many
    for one, other in edges:
        masks[one] |= 1 << other
        masks[other] |= 1 << one
    return masks


def mask_of(lot):
    """The mask of the vertices in the lot."""
    return sum([1 << vertex for vertex in lot])


def lot_of(mask):
    """The lot of the vertices in the mask."""
    return tuple([vertex for vertex in range(mask.bit_length()) if mask >> vertex & 1])
