"""MULTIGRAPHs, bipartite: their line graphs, and colourings of their edges."""

from perfectgraphs.cliques import colouring, is_colouring
from perfectgraphs.errors import InvalidMultigraph
from perfectgraphs.graphs import is_tuple_of_two, is_whole

MOST_ON_A_SIDE = 9
MOST_EDGES = 9


def is_multigraph(value):
    """Whether the value, whatever it is, is a MULTIGRAPH."""
    if type(value) is not tuple or len(value) != 3:
        return False
    left, right, edges = value
    if not is_whole(left, 0, MOST_ON_A_SIDE) or not is_whole(right, 0, MOST_ON_A_SIDE):
        return False
    if type(edges) is not tuple or len(edges) > MOST_EDGES:
        return False
    # Only pairs of numbers are compared: other values may have no order.
    return all([_is_edge(edge, left, right) for edge in edges]) and _is_never_falling(edges)


def _is_edge(value, left, right):
    """Whether the value, whatever it is, is a pair of a left and a right vertex, of so many that there are."""
    return is_tuple_of_two(value) and is_whole(value[0], 0, left - 1) and is_whole(value[1], 0, right - 1)


def _is_never_falling(edges):
    return all([edge <= following for edge, following in zip(edges, edges[1:])])


def check_multigraph(multigraph):
    """Refuses what is no MULTIGRAPH."""
    if not is_multigraph(multigraph):
        raise InvalidMultigraph(multigraph)


def edges_at_left(multigraph):
    """For each left vertex of a MULTIGRAPH the ascending list of the edges at it."""
    return _edges_at(multigraph, 0)


def edges_at_right(multigraph):
    """For each right vertex of a MULTIGRAPH the ascending list of the edges at it."""
    return _edges_at(multigraph, 1)


def _edges_at(multigraph, side):
    # Both the numbers of vertices and the ends of an edge stand left ahead of right.
    ends = [edge[side] for edge in multigraph[2]]
    return [[edge for edge, end in enumerate(ends) if end == vertex] for vertex in range(multigraph[side])]


def greatest_degree(multigraph):
    """The greatest number of edges at one vertex; 0 if there are none."""
    check_multigraph(multigraph)
    rows = edges_at_left(multigraph) + edges_at_right(multigraph)
    return max([0] + [len(row) for row in rows])


def line_graph(multigraph):
    """The GRAPH of the edges' indexes, adjacent if they are at one left or at one right vertex."""
    check_multigraph(multigraph)
    edges = multigraph[2]
    many = len(edges)
    pairs = [(one, other) for one in range(many) for other in range(one + 1, many)]
    return (many, tuple([(one, other) for one, other in pairs if _do_meet(edges[one], edges[other])]))


def _do_meet(edge, other):
    return edge[0] == other[0] or edge[1] == other[1]


def is_edge_colouring(multigraph, value):
    """Whether the value, whatever it is, is a colouring of the edges with colours below the greatest degree."""
    most = greatest_degree(multigraph)
    return is_colouring(line_graph(multigraph), value) and all([colour < most for colour in value])


def edge_colouring(multigraph):
    """Any colouring of the edges with colours below the greatest degree."""
    # Of the line graph so many colours are enough.
    return colouring(line_graph(multigraph))
