"""Renamings of the vertices, and what they lead to."""

from itertools import permutations

from perfectgraphs.errors import InvalidRenaming
from perfectgraphs.graphs import check_graph, check_size, complement, is_whole, lot_of, mask_of
from perfectgraphs.graphs import neighbour_masks, ordered

MOST_RENAMED = 7


def is_renaming(graph, value):
    """Whether the value, whatever it is, is a renaming of the graph."""
    check_graph(graph)
    many = graph[0]
    if type(value) is not tuple or len(value) != many:
        return False
    return all([is_whole(name, 0, many - 1) for name in value]) and len(set(value)) == many


def renamed(graph, renaming):
    """The graph to which the renaming leads this one."""
    if not is_renaming(graph, renaming):
        raise InvalidRenaming(renaming)
    return (graph[0], _edges_called(graph, renaming))


def _edges_called(graph, names):
    return tuple(sorted([ordered(names[one], names[other]) for one, other in graph[1]]))


def does_lead(graph, other, value):
    """Whether the value, whatever it is, is a renaming that leads the graph to the other one."""
    check_graph(graph)
    check_graph(other)
    return is_renaming(graph, value) and renamed(graph, value) == other


def renaming_to(graph, other):
    """Any renaming that leads the graph to the other one; None."""
    check_graph(graph)
    check_graph(other)
    if graph[0] != other[0]:
        return None
    return _first_way(neighbour_masks(graph), neighbour_masks(other), ())


def are_isomorphic(graph, other):
    """Whether some renaming leads the one to the other."""
    return renaming_to(graph, other) is not None


def is_self_complementary(graph):
    """Whether the graph is isomorphic to its complement."""
    return are_isomorphic(graph, complement(graph))


def automorphisms(graph):
    """The ascending tuple of all renamings that lead the graph to itself."""
    check_graph(graph)
    check_size(graph[0], MOST_RENAMED)
    neighbours = neighbour_masks(graph)
    return tuple(_all_ways(neighbours, neighbours, ()))


def least_form(graph):
    """The graph of the least edges to which renamings lead this one."""
    check_graph(graph)
    check_size(graph[0], MOST_RENAMED)
    return (graph[0], min([_edges_called(graph, names) for names in permutations(range(graph[0]))]))


def _first_way(neighbours, others, begun):
    """The first renaming with this beginning that leads from the one's neighbours to the others; None."""
    if len(begun) == len(neighbours):
        return begun
    for name in _names_that_go_on(neighbours, others, begun):
        way = _first_way(neighbours, others, begun + (name,))
        if way is not None:
            return way
    return None


def _all_ways(neighbours, others, begun):
    """The ascending renamings with this beginning that lead from the one's neighbours to the others."""
    if len(begun) == len(neighbours):
        return [begun]
    found = []
    for name in _names_that_go_on(neighbours, others, begun):
        found.extend(_all_ways(neighbours, others, begun + (name,)))
    return found


def _names_that_go_on(neighbours, others, begun):
    """The names for the next vertex that keep what is adjacent to it among those called already."""
    near = neighbours[len(begun)]
    told = sum([1 << name for vertex, name in enumerate(begun) if near >> vertex & 1])
    called = mask_of(begun)
    free = [name for name in range(len(others)) if not called >> name & 1]
    # Unlike degrees lead nowhere; they are left out early as most renamings have some.
    alike = [name for name in free if len(lot_of(others[name])) == len(lot_of(near))]
    return [name for name in alike if others[name] & called == told]
