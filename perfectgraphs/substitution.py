"""Graphs put together of others, and taken apart at a module."""

from perfectgraphs.errors import InvalidLot, InvalidTimes
from perfectgraphs.graphs import MOST_VERTICES, check_graph, check_size, check_vertex, induced, is_lot
from perfectgraphs.graphs import is_whole_from, lot_of, mask_of, neighbour_masks


def substituted(graph, vertex, other):
    """The graph with OTHER in the place of the vertex: the rest first, then the vertices of OTHER."""
    check_vertex(graph, vertex)
    check_graph(other)
    rest = tuple([kept for kept in range(graph[0]) if kept != vertex])
    near = neighbour_masks(graph)[vertex]
    beside = [place for place, kept in enumerate(rest) if near >> kept & 1]
    return _side_by_side(induced(graph, rest), other, beside)


def union(graph, other):
    """The graph with the vertices of both, the first one's first, and just the edges of both."""
    check_graph(graph)
    check_graph(other)
    return _side_by_side(graph, other, [])


def join(graph, other):
    """The union with all pairs of one vertex of each as edges, too."""
    check_graph(graph)
    check_graph(other)
    return _side_by_side(graph, other, list(range(graph[0])))


def _side_by_side(graph, other, beside):
    """The union, where the told vertices of the first graph are adjacent to all of the other one."""
    many, edges = graph
    more, inner = other
    check_size(many + more, MOST_VERTICES)
    between = [(vertex, many + place) for vertex in beside for place in range(more)]
    behind = [(many + one, many + two) for one, two in inner]
    return (many + more, tuple(sorted(list(edges) + between + behind)))


def replicated(graph, times):
    """The graph with a clique of so many copies in the place of each vertex."""
    return _copied(graph, times, True)


def multiplied(graph, times):
    """The graph with a stable set of so many copies in the place of each vertex."""
    return _copied(graph, times, False)


def _copied(graph, times, are_copies_adjacent):
    check_graph(graph)
    if not _are_times(graph, times):
        raise InvalidTimes(times)
    many = sum(times)
    check_size(many, MOST_VERTICES)
    copies = [vertex for vertex, number in enumerate(times) for _ in range(number)]
    edges = []
    for one in range(many):
        for other in range(one + 1, many):
            # The copies stand in the order of what they are copies of.
            pair = (copies[one], copies[other])
            if pair in graph[1] or (are_copies_adjacent and pair[0] == pair[1]):
                edges.append((one, other))
    return (many, tuple(edges))


def _are_times(graph, value):
    if type(value) is not tuple or len(value) != graph[0]:
        return False
    return all([is_whole_from(number, 0) for number in value])


def is_module(graph, value):
    """Whether the value, whatever it is, is a module of the graph."""
    return is_lot(graph, value) and _is_module_mask(neighbour_masks(graph), mask_of(value))


def modules(graph):
    """The ascending tuple of all modules."""
    check_graph(graph)
    neighbours = neighbour_masks(graph)
    masks = range(1 << len(neighbours))
    return tuple(sorted([lot_of(mask) for mask in masks if _is_module_mask(neighbours, mask)]))


def _is_module_mask(neighbours, mask):
    if not 2 <= len(lot_of(mask)) < len(neighbours):
        return False
    outside = [near for vertex, near in enumerate(neighbours) if not mask >> vertex & 1]
    return all([near & mask in (0, mask) for near in outside])


def taken_apart(graph, module):
    """(QUOTIENT, VERTEX, INNER) of the graph at the module."""
    if not is_module(graph, module):
        raise InvalidLot(module)
    least = module[0]
    kept = tuple([vertex for vertex in range(graph[0]) if vertex == least or vertex not in module])
    return (induced(graph, kept), kept.index(least), induced(graph, module))
