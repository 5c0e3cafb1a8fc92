"""The clique polytope and its corners."""

from itertools import combinations

from perfectgraphs.cliques import cliques
from perfectgraphs.fractions import are_up_to_one, check_shares, sum_over
from perfectgraphs.graphs import check_graph, check_size, induced, lot_of
from perfectgraphs.holes import odd_one
from perfectgraphs.linear import only_solution, rank
from perfectgraphs.rationals import ZERO, common_denominator, lowest_terms

MOST_FOR_CORNERS = 6
ONE = (1, 1)


def is_in(graph, shares):
    """Whether the shares are in the clique polytope."""
    check_shares(graph, shares)
    # No share is below 0, so the maximal cliques tell enough.
    return are_up_to_one(shares, cliques(graph))


def is_corner(graph, shares):
    """Whether the shares are a corner of the clique polytope."""
    if not is_in(graph, shares):
        return False
    # The shares that are 0 are told by their own equations, so the others must be told by the cliques.
    above = [vertex for vertex, share in enumerate(shares) if share != ZERO]
    tight = [clique for clique in cliques(graph) if sum_over(shares, clique) == ONE]
    return rank(_rows(tight, above)) == len(above)


def are_whole(shares):
    """Whether the shares are 0 and 1 alone."""
    return all([share in (ZERO, ONE) for share in shares])


def _rows(lots, vertices):
    """For each lot a row that tells which of the vertices it has."""
    return [[1 if vertex in lot else 0 for vertex in vertices] for lot in lots]


def corners(graph):
    """The tuple of all corners of the clique polytope, ascending share by share."""
    check_graph(graph)
    check_size(graph[0], MOST_FOR_CORNERS)
    found = []
    for mask in range(1 << graph[0]):
        lot = lot_of(mask)
        for shares in _corners_above_zero(induced(graph, lot)):
            found.append(tuple([shares[lot.index(vertex)] if vertex in lot else ZERO for vertex in range(graph[0])]))
    return _ascending(found)


def _corners_above_zero(graph):
    """The corners of which each share is above 0."""
    # A clique within a greater one comes to less than this one does, so the maximal ones tell such a corner.
    maximal = list(cliques(graph))
    vertices = list(range(graph[0]))
    found = {}
    for chosen in combinations(maximal, len(vertices)):
        shares = only_solution(_rows(chosen, vertices), 1)
        if shares is not None and all([n > 0 for n, _ in shares]) and are_up_to_one(shares, maximal):
            found[tuple(shares)] = True
    return list(found)


def _ascending(rows):
    """The tuple of the rows of fractions, ordered as numbers."""
    whole = common_denominator([share for row in rows for share in row])
    numbered = [([n * (whole // m) for n, m in row], row) for row in rows]
    return tuple([row for _, row in sorted(numbered)])


def fractional_corner(graph):
    """Any corner that is not whole; None."""
    odd = odd_one(graph)
    if odd is None:
        return None
    word, hole = odd
    share = (1, 2) if word == "hole" else lowest_terms(2, len(hole) - 1)
    return tuple([share if vertex in hole else ZERO for vertex in range(graph[0])])
