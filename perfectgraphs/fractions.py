"""SHARES of the vertices: fractional cliques and covers, the best of both."""

from perfectgraphs.cliques import stable_sets
from perfectgraphs.errors import InvalidShares
from perfectgraphs.graphs import check_graph
from perfectgraphs.linear import best_shares
from perfectgraphs.rationals import ZERO, is_fraction_from_zero, is_up_to, lowest_terms, total
from perfectgraphs.weights import are_parts, check_weights


def are_shares(graph, value):
    """Whether the value, whatever it is, are SHARES of the GRAPH."""
    if type(value) is not tuple or len(value) != graph[0]:
        return False
    return all([is_fraction_from_zero(share) for share in value])


def check_shares(graph, shares):
    """Refuses what is no GRAPH, then what are no SHARES of it."""
    check_graph(graph)
    if not are_shares(graph, shares):
        raise InvalidShares(shares)


def are_up_to_one(shares, lots):
    """Whether the shares of each of the lots come to 1 at most."""
    return all([is_up_to(sum_over(shares, lot), 1) for lot in lots])


def sum_over(shares, lot):
    """What the shares of the lot's vertices come to."""
    return total([shares[vertex] for vertex in lot])


def worth_of(shares, weights):
    """The sum of the products of weights and shares."""
    return total([lowest_terms(n * weight, m) for (n, m), weight in zip(shares, weights)])


def fractional_number(graph, weights):
    """The greatest worth of a fractional clique for the weights, a fraction."""
    return _best(graph, weights)[0]


def fractional_clique(graph, weights):
    """Any fractional clique of the greatest worth for the weights."""
    return _best(graph, weights)[1]


def fractional_cover(graph, weights):
    """Any fractional cover of the weights of the least size."""
    return _best(graph, weights)[2]


def _best(graph, weights):
    """The fractional number, a fractional clique of this worth, a fractional cover of this size."""
    check_weights(graph, weights)
    # Of a graph without vertices () is maximal; it is in no cover, and bounds no shares.
    lots = [lot for lot in stable_sets(graph) if lot]
    rows = [[1 if vertex in lot else 0 for vertex in range(graph[0])] for lot in lots]
    worth, shares, prices = best_shares(rows, weights)
    parts = [(lot, price) for lot, price in zip(lots, prices) if price != ZERO]
    return (worth, tuple(shares), tuple(parts))


def is_fractional_clique(graph, value):
    """Whether the value, whatever it is, is a fractional clique."""
    check_graph(graph)
    # No share is below 0, so the maximal stable sets tell enough.
    return are_shares(graph, value) and are_up_to_one(value, stable_sets(graph))


def is_fractional_cover(graph, weights, value):
    """Whether the value, whatever it is, is a fractional cover of the weights."""
    check_weights(graph, weights)
    if not are_parts(graph, value):
        return False
    if not all([is_fraction_from_zero(times) and times != ZERO for _, times in value]):
        return False
    covered = [total([times for lot, times in value if vertex in lot]) for vertex in range(graph[0])]
    return all([n >= weight * m for (n, m), weight in zip(covered, weights)])
