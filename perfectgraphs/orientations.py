"""ORIENTATIONs of the edges, and their kernels."""

from perfectgraphs.cliques import clique_masks, is_clique, is_stable, stable_masks
from perfectgraphs.errors import InvalidHole, InvalidOrientation
from perfectgraphs.graphs import check_graph, check_lot, is_ascending, is_lot, is_vertex_pair, lot_of
from perfectgraphs.graphs import mask_of, neighbour_masks, ordered
from perfectgraphs.holes import is_antihole, is_hole, odd_one

# The arcs on a round, from place to place, counted on from each of its places.
STEPS_OF_A_HOLE = ((0, 1),)
STEPS_OF_AN_ANTIHOLE = {5: ((0, 2),), 7: ((0, 2), (3, 0)), 9: ((0, 2), (0, 4), (0, 3), (3, 0))}


def is_orientation(graph, value):
    """Whether the value, whatever it is, is an ORIENTATION of the graph."""
    check_graph(graph)
    many, edges = graph
    if type(value) is not tuple or not all([is_vertex_pair(arc, many) for arc in value]):
        return False
    # An edge may have both its ways, and a pair of one vertex twice is no edge.
    ways = [ordered(start, end) for start, end in value]
    return is_ascending(value) and sorted(set(ways)) == list(edges)


def check_orientation(graph, orientation):
    """Refuses what is no GRAPH, then what is no ORIENTATION of it."""
    if not is_orientation(graph, orientation):
        raise InvalidOrientation(orientation)


def is_clique_acyclic(graph, orientation):
    """Whether in each clique other than () all others have an arc to some vertex of it."""
    return clique_against(graph, orientation) is None


def clique_against(graph, orientation):
    """Any clique other than () without a vertex to which all others of it have an arc; None."""
    check_orientation(graph, orientation)
    for mask in clique_masks(neighbour_masks(graph)):
        lot = lot_of(mask)
        if lot and not _ends_of_all(graph, orientation, lot):
            return lot
    return None


def is_clique_against(graph, orientation, value):
    """Whether the value, whatever it is, is a clique as clique_against tells."""
    check_orientation(graph, orientation)
    if not is_lot(graph, value) or not value:
        return False
    return is_clique(graph, value) and not _ends_of_all(graph, orientation, value)


def _ends_of_all(graph, orientation, lot):
    """The vertices of the lot to which all others of it have an arc."""
    starts = _ends_by_start(graph, [(end, start) for start, end in orientation])
    whole = mask_of(lot)
    return [vertex for vertex in lot if (starts[vertex] | 1 << vertex) & whole == whole]


def _ends_by_start(graph, arcs):
    """For each vertex of the GRAPH the mask of those to which it has an arc."""
    masks = [0] * graph[0]
    for start, end in arcs:
        masks[start] |= 1 << end
    return masks


def is_kernel(graph, orientation, lot):
    """Whether the lot is a kernel of the orientation."""
    return not without_arc_to(graph, orientation, lot) and is_stable(graph, lot)


def kernels(graph, orientation):
    """The ascending tuple of all kernels of the orientation."""
    check_orientation(graph, orientation)
    ends = _ends_by_start(graph, orientation)
    return tuple(sorted([lot_of(mask) for mask in stable_masks(graph) if not _without_end_in(ends, mask)]))


def without_arc_to(graph, orientation, lot):
    """The vertices outside the lot that have no arc to one of it."""
    check_orientation(graph, orientation)
    check_lot(graph, lot)
    return _without_end_in(_ends_by_start(graph, orientation), mask_of(lot))


def _without_end_in(ends, mask):
    return tuple([vertex for vertex, end in enumerate(ends) if not mask >> vertex & 1 and not end & mask])


def against(graph, hole):
    """The orientation against an odd hole of the graph or of its complement: clique-acyclic, without a kernel."""
    check_graph(graph)
    steps = _steps_of(graph, hole)
    if steps is None:
        raise InvalidHole(hole)
    many = len(hole)
    arcs = [(hole[(at + one) % many], hole[(at + other) % many]) for at in range(many) for one, other in steps]
    for one, other in graph[1]:
        # Outside the hole arcs lead from greater to lesser vertices, but into it from all.
        if one not in hole and other in hole:
            arcs.append((one, other))
        elif other not in hole:
            arcs.append((other, one))
    return tuple(sorted(arcs))


def _steps_of(graph, value):
    """The steps of the arcs on what is an odd hole of the graph or of its complement; None for what is none."""
    if is_hole(graph, value):
        return STEPS_OF_A_HOLE if len(value) % 2 == 1 else None
    if is_antihole(graph, value):
        return STEPS_OF_AN_ANTIHOLE.get(len(value))
    return None


def orientation_without_kernel(graph):
    """Any clique-acyclic orientation without a kernel; None for a perfect graph."""
    odd = odd_one(graph)
    if odd is None:
        return None
    return against(graph, odd[1])
