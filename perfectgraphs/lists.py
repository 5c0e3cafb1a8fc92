"""LISTS of colours for the edges of a multigraph, and the colourings from them."""

from perfectgraphs.cliques import is_colouring, stable_masks
from perfectgraphs.errors import InvalidColours, InvalidLists
from perfectgraphs.graphs import is_ascending, is_whole, mask_of
from perfectgraphs.matchings import best_among, check_preferences
from perfectgraphs.multigraphs import check_multigraph, edges_at_left, edges_at_right, is_edge_colouring, line_graph

MOST_IN_A_LIST = 9
GREATEST_COLOUR = 99


def is_lists(multigraph, value):
    """Whether the value, whatever it is, are LISTS of the multigraph."""
    check_multigraph(multigraph)
    if type(value) is not tuple or len(value) != len(multigraph[2]):
        return False
    return all([_is_list(row) for row in value])


def _is_list(value):
    """Whether the value, whatever it is, is an ascending tuple of colours, not too many."""
    if type(value) is not tuple or len(value) > MOST_IN_A_LIST:
        return False
    return all([is_whole(colour, 0, GREATEST_COLOUR) for colour in value]) and is_ascending(value)


def check_lists(multigraph, lists):
    """Refuses what is no MULTIGRAPH, then what are no LISTS of it."""
    if not is_lists(multigraph, lists):
        raise InvalidLists(lists)


def is_from_lists(multigraph, lists, value):
    """Whether the value, whatever it is, is a colouring from the lists."""
    check_lists(multigraph, lists)
    if not is_colouring(line_graph(multigraph), value):
        return False
    return all([colour in row for colour, row in zip(value, lists)])


def list_colouring(multigraph, lists):
    """Any colouring from the lists; None."""
    check_lists(multigraph, lists)
    many = len(lists)
    matchings = stable_masks(line_graph(multigraph))
    # For each mask of edges that can have colours together: these colours.
    ways = {0: (None,) * many}
    for colour in _colours_in(lists):
        listed = mask_of(_edges_with(colour, lists))
        fitting = [mask for mask in matchings if mask & listed == mask]
        for done, colours in list(ways.items()):
            for mask in fitting:
                # Edges that had a colour may get this one instead: the others keep theirs.
                if mask | done not in ways:
                    ways[mask | done] = tuple([colour if mask >> edge & 1 else colours[edge] for edge in range(many)])
    return ways.get((1 << many) - 1)


def _colours_in(lists):
    return sorted(set([colour for row in lists for colour in row]))


def _edges_with(colour, lists):
    return [edge for edge, row in enumerate(lists) if colour in row]


def colours_by(multigraph, preferences, lists):
    """The tuple of the colours by the preferences; None for an edge that gets none."""
    check_preferences(multigraph, preferences)
    check_lists(multigraph, lists)
    colours = [None] * len(lists)
    for colour in _colours_in(lists):
        waiting = [edge for edge in _edges_with(colour, lists) if colours[edge] is None]
        for edge in best_among(preferences, waiting):
            colours[edge] = colour
    return tuple(colours)


def galvin_preferences(multigraph, colours):
    """The PREFERENCES of greater colours at left vertices, of lesser ones at right vertices."""
    if not is_edge_colouring(multigraph, colours):
        raise InvalidColours(colours)
    lefts = [_by_colour(row, colours)[::-1] for row in edges_at_left(multigraph)]
    rights = [_by_colour(row, colours) for row in edges_at_right(multigraph)]
    return (tuple(lefts), tuple(rights))


def _by_colour(row, colours):
    """The edges of the row, which have unlike colours, by these, the least one first."""
    return tuple([edge for _, edge in sorted([(colours[edge], edge) for edge in row])])
