"""Holes and antiholes, and the Berge graphs, which have none of odd length."""

from perfectgraphs.graphs import check_graph, complement, is_whole, neighbour_masks

SHORTEST_HOLE = 4


def holes(graph):
    """The ascending tuple of all holes."""
    check_graph(graph)
    neighbours = neighbour_masks(graph)
    found = []
    for first in range(len(neighbours)):
        found.extend(_holes_from(neighbours, (first,)))
    return tuple(found)


def antiholes(graph):
    """The ascending tuple of all antiholes."""
    return holes(complement(graph))


def _holes_from(neighbours, path):
    """The ascending holes that begin with the path, which has no other edges among its vertices."""
    found = []
    for vertex in _next_vertices(neighbours, path):
        longer = path + (vertex,)
        if len(path) == 1 or not neighbours[path[0]] >> vertex & 1:
            found.extend(_holes_from(neighbours, longer))
        elif len(longer) >= SHORTEST_HOLE and path[1] < vertex:
            found.append(longer)
    return found


def _next_vertices(neighbours, path):
    """The vertices adjacent to the path's end, and, but for its beginning, to nothing else of it."""
    inner = path[1:-1]
    found = []
    # The beginning of a hole is its least vertex, so only greater ones may follow.
    for vertex in range(path[0] + 1, len(neighbours)):
        near = neighbours[vertex]
        if near >> path[-1] & 1 and vertex not in path and not any([near >> passed & 1 for passed in inner]):
            found.append(vertex)
    return found


def is_hole(graph, value):
    """Whether the value, whatever it is, is a hole of the graph."""
    check_graph(graph)
    neighbours = neighbour_masks(graph)
    many = len(neighbours)
    if type(value) is not tuple or not SHORTEST_HOLE <= len(value) <= many:
        return False
    # Only whole numbers are compared, as True is 1 for Python.
    if not all([is_whole(vertex, 0, many - 1) for vertex in value]):
        return False
    if len(set(value)) != len(value) or value[0] != min(value) or value[1] > value[-1]:
        return False
    return _is_bare_round(neighbours, value)


def _is_bare_round(neighbours, vertices):
    """Whether each of the vertices is adjacent to those beside it in the round, and to no others."""
    whole = sum([1 << vertex for vertex in vertices])
    for at, vertex in enumerate(vertices):
        beside = 1 << vertices[at - 1] | 1 << vertices[(at + 1) % len(vertices)]
        if neighbours[vertex] & whole != beside:
            return False
    return True


def is_antihole(graph, value):
    """Whether the value, whatever it is, is an antihole of the graph."""
    return is_hole(complement(graph), value)


def odd_one(graph):
    """Any ("hole", HOLE) or ("antihole", HOLE) with a HOLE of odd length; None if there is none.

    It is the first odd hole, or, where there is none, the first odd antihole.
    """
    for hole in holes(graph):
        if len(hole) % 2 == 1:
            return ("hole", hole)
    for hole in antiholes(graph):
        if len(hole) % 2 == 1:
            return ("antihole", hole)
    return None


def is_berge(graph):
    """Whether the graph has no hole and no antihole of odd length."""
    return odd_one(graph) is None
