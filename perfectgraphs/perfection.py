"""Perfect graphs, and the lots that tell that a graph is not perfect."""

from perfectgraphs.cliques import chromatic_numbers, clique_numbers
from perfectgraphs.graphs import check_graph, complement, lot_of, neighbour_masks


def is_perfect(graph):
    """Whether each induced subgraph has as many colours enough as its clique number."""
    return not _lacking_masks(graph)


def lacking(graph):
    """Any lot whose induced subgraph has a chromatic number above its clique number; None."""
    return _first_lot(_lacking_masks(graph))


def thin(graph):
    """Any lot with more vertices than its clique number times its stable number; None."""
    check_graph(graph)
    cliques = clique_numbers(neighbour_masks(graph))
    stables = clique_numbers(neighbour_masks(complement(graph)))
    masks = range(len(cliques))
    return _first_lot([mask for mask in masks if len(lot_of(mask)) > cliques[mask] * stables[mask]])


def is_minimal(graph):
    """Whether the graph is minimally imperfect."""
    # Each lot that induces no perfect graph has a minimal one within it: here just all vertices.
    return minimal_lots(graph) == (tuple(range(graph[0])),)


def minimal_lots(graph):
    """The ascending tuple of the lots whose induced subgraphs are minimally imperfect."""
    least = []
    # A mask within another one is the lesser number, so it has its turn earlier.
    for mask in _lacking_masks(graph):
        if all([mask & found != found for found in least]):
            least.append(mask)
    return tuple(sorted([lot_of(mask) for mask in least]))


def _lacking_masks(graph):
    """The ascending masks whose chromatic number is above their clique number."""
    check_graph(graph)
    neighbours = neighbour_masks(graph)
    cliques = clique_numbers(neighbours)
    colours = chromatic_numbers(neighbours)
    return [mask for mask in range(len(cliques)) if colours[mask] > cliques[mask]]


def _first_lot(masks):
    return lot_of(masks[0]) if masks else None
