"""WEIGHTS of the vertices: heaviest cliques, and covers by stable sets."""

from perfectgraphs.cliques import cliques, is_clique, stable_masks
from perfectgraphs.errors import InvalidWeights
from perfectgraphs.graphs import check_graph, induced, is_ascending, is_lot, is_tuple_of_two, is_whole, is_whole_from
from perfectgraphs.graphs import lot_of, mask_of, neighbour_masks
from perfectgraphs.perfection import is_perfect

MOST_WEIGHT = 1000000


def are_weights(graph, value):
    """Whether the value, whatever it is, are WEIGHTS of the GRAPH."""
    if type(value) is not tuple or len(value) != graph[0]:
        return False
    return all([is_whole(weight, 0, MOST_WEIGHT) for weight in value])


def check_weights(graph, weights):
    """Refuses what is no GRAPH, then what are no WEIGHTS of it."""
    check_graph(graph)
    if not are_weights(graph, weights):
        raise InvalidWeights(weights)


def weight_of(lot, weights):
    """The sum of the weights of the lot's vertices."""
    return sum([weights[vertex] for vertex in lot])


def are_parts(graph, value):
    """Whether the value, whatever it is, is a tuple of pairs, their stable sets being ascending and other than ()."""
    if type(value) is not tuple or not all([is_tuple_of_two(part) for part in value]):
        return False
    neighbours = neighbour_masks(graph)
    lots = [lot for lot, _ in value]
    # Unlike stable sets alone tell whether the pairs ascend.
    return all([_is_stable_and_told(graph, neighbours, lot) for lot in lots]) and is_ascending(lots)


def _is_stable_and_told(graph, neighbours, value):
    """Whether the value, whatever it is, is a stable set other than ()."""
    if not is_lot(graph, value) or not value:
        return False
    whole = mask_of(value)
    return not any([neighbours[vertex] & whole for vertex in value])


def is_cover(graph, weights, value):
    """Whether the value, whatever it is, is a COVER that covers the weights."""
    check_weights(graph, weights)
    if not are_parts(graph, value) or not all([is_whole_from(times, 1) for _, times in value]):
        return False
    covered = [sum([times for lot, times in value if vertex in lot]) for vertex in range(graph[0])]
    return all([times >= weight for times, weight in zip(covered, weights)])


def is_pair(graph, weights, value):
    """Whether the value, whatever it is, is a PAIR for the weights."""
    check_weights(graph, weights)
    if not is_tuple_of_two(value):
        return False
    clique, cover = value
    if not is_lot(graph, clique) or not is_clique(graph, clique) or not is_cover(graph, weights, cover):
        return False
    return sum([times for _, times in cover]) == weight_of(clique, weights)


def heaviest_clique(graph, weights):
    """Any clique of the greatest weight."""
    check_weights(graph, weights)
    weighed = [(weight_of(clique, weights), clique) for clique in cliques(graph)]
    return max(weighed)[1]


def pair(graph, weights):
    """Any PAIR for the weights, if the vertices with weights above 0 induce a perfect graph; else None."""
    check_weights(graph, weights)
    weighty = tuple([vertex for vertex, weight in enumerate(weights) if weight > 0])
    if not is_perfect(induced(graph, weighty)):
        return None
    return (heaviest_clique(graph, weights), _cheapest_cover(graph, weights))


def _cheapest_cover(graph, weights):
    """A COVER no dearer than the heaviest clique, if the vertices with weights above 0 induce a perfect graph."""
    stables = [mask for mask in stable_masks(graph) if mask]
    maximal = cliques(graph)
    left = list(weights)
    parts = []
    while any(left):
        lot, times = _next_part(stables, [(mask_of(clique), weight_of(clique, left)) for clique in maximal], left)
        parts.append((lot, times))
        for vertex in lot:
            left[vertex] -= times
    return tuple(sorted(parts))


def _next_part(stables, weighed, left):
    """A stable set, and how often it can be taken with the greatest weight of a clique falling each time.

    In a perfect graph some stable set meets all heaviest cliques. Taken as often as can
    be, it leaves a vertex without weight, or a clique more among the heaviest ones, where
    each clique stays: so there is an end, and no stable set has its turn twice.
    """
    greatest = max([weight for _, weight in weighed])
    for stable in stables:
        lot = lot_of(stable)
        spare = [greatest - weight for mask, weight in weighed if mask & stable == 0]
        times = min([left[vertex] for vertex in lot] + spare)
        if times > 0:
            return (lot, times)
    return None
