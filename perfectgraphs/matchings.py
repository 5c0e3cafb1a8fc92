"""PREFERENCES at the vertices of a multigraph, and the matchings that are stable by them."""

from perfectgraphs.cliques import is_stable
from perfectgraphs.errors import InvalidMatching, InvalidPreferences, Unfit
from perfectgraphs.graphs import is_lot, is_tuple_of_two, is_whole_from
from perfectgraphs.multigraphs import check_multigraph, edges_at_left, edges_at_right, line_graph
from perfectgraphs.orientations import kernels, without_arc_to


def is_preferences(multigraph, value):
    """Whether the value, whatever it is, are PREFERENCES of the multigraph."""
    check_multigraph(multigraph)
    if not is_tuple_of_two(value):
        return False
    lefts, rights = value
    return _are_orders(lefts, edges_at_left(multigraph)) and _are_orders(rights, edges_at_right(multigraph))


def _are_orders(value, rows):
    """Whether the value, whatever it is, is a tuple with, for each row, a tuple of its edges, each once."""
    if type(value) is not tuple or len(value) != len(rows):
        return False
    return all([_is_order(order, row) for order, row in zip(value, rows)])


def _is_order(value, row):
    if type(value) is not tuple:
        return False
    # Only whole numbers are compared, as True is 1 for Python.
    return all([is_whole_from(edge, 0) for edge in value]) and sorted(value) == row


def check_preferences(multigraph, preferences):
    """Refuses what is no MULTIGRAPH, then what are no PREFERENCES of it."""
    if not is_preferences(multigraph, preferences):
        raise InvalidPreferences(preferences)


def is_matching(multigraph, value):
    """Whether the value, whatever it is, is a matching of the multigraph."""
    lines = line_graph(multigraph)
    return is_lot(lines, value) and is_stable(lines, value)


def check_matching(multigraph, matching):
    """Refuses what is no MULTIGRAPH, then what is no matching of it."""
    if not is_matching(multigraph, matching):
        raise InvalidMatching(matching)


def orientation_of(multigraph, preferences):
    """The arcs from each edge to those to which it gives way: an ORIENTATION of the line graph."""
    check_preferences(multigraph, preferences)
    lefts, rights = preferences
    arcs = []
    for row in lefts + rights:
        arcs.extend([(edge, better) for at, edge in enumerate(row) for better in row[:at]])
    # Edges at the same two vertices may give way at both.
    return tuple(sorted(set(arcs)))


def edges_against(multigraph, preferences, matching):
    """The edges outside the matching that give way to none of it."""
    arcs = orientation_of(multigraph, preferences)
    check_matching(multigraph, matching)
    return without_arc_to(line_graph(multigraph), arcs, matching)


def is_stable_matching(multigraph, preferences, matching):
    """Whether each edge outside the matching gives way to one of it."""
    return edges_against(multigraph, preferences, matching) == ()


def stable_matchings(multigraph, preferences):
    """The ascending tuple of all stable matchings."""
    arcs = orientation_of(multigraph, preferences)
    return kernels(line_graph(multigraph), arcs)


def best_matching(multigraph, preferences):
    """The stable matching that is best for all left vertices."""
    check_preferences(multigraph, preferences)
    return best_among(preferences, list(range(len(multigraph[2]))))


def best_among(preferences, edges):
    """The stable matching that is best for all left vertices, all but these edges being left out."""
    lefts, rights = preferences
    rows = [[edge for edge in row if edge in edges] for row in lefts]
    while True:
        # Each left vertex asks along its best edge, each right one keeps the best that asks.
        asked = [row[0] for row in rows if row]
        kept = _first_of_each(rights, asked)
        if len(kept) == len(asked):
            return tuple(sorted(kept))
        rows = [[edge for edge in row if edge in kept or edge not in asked] for row in rows]


def _first_of_each(rows, edges):
    """The first one of these edges in each row that has some."""
    found = [[edge for edge in row if edge in edges] for row in rows]
    return [row[0] for row in found if row]


def better_of(multigraph, preferences, one, other):
    """The stable matching in which each left vertex has the better one of its edges in both."""
    check_preferences(multigraph, preferences)
    check_matching(multigraph, one)
    check_matching(multigraph, other)
    for matching in (one, other):
        if not is_stable_matching(multigraph, preferences, matching):
            raise Unfit(matching)
    return tuple(sorted(_first_of_each(preferences[0], one + other)))
