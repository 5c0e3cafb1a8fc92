"""Claims for the checker: their words, and the parts behind each."""

from perfectgraphs.changes import is_log
from perfectgraphs.fractions import are_shares
from perfectgraphs.graphs import is_graph, is_whole_from
from perfectgraphs.lists import is_lists
from perfectgraphs.matchings import is_matching, is_preferences
from perfectgraphs.multigraphs import is_multigraph
from perfectgraphs.orientations import is_orientation
from perfectgraphs.rationals import is_fraction_from_zero
from perfectgraphs.weights import are_weights

# Of each word the kinds of the parts that stand behind it.
FORMS = {
    "perfect": ("graph",),
    "not perfect": ("graph",),
    "weighs": ("graph", "weights", "number"),
    "fractional": ("graph", "weights", "fraction"),
    "colours": ("graph", "number"),
    "not colours": ("graph", "number"),
    "corner": ("graph", "shares"),
    "no corner": ("graph", "shares"),
    "isomorphic": ("graph", "graph"),
    "not isomorphic": ("graph", "graph"),
    "clique-acyclic": ("graph", "orientation"),
    "not clique-acyclic": ("graph", "orientation"),
    "kernel": ("graph", "orientation"),
    "no kernel": ("graph", "orientation"),
    "stable": ("multigraph", "preferences", "matching"),
    "not stable": ("multigraph", "preferences", "matching"),
    "from lists": ("multigraph", "lists"),
    "not from lists": ("multigraph", "lists"),
    "clique cutset": ("graph",),
    "no clique cutset": ("graph",),
    "led": ("log", "graph"),
}


def _is_graph(_, value):
    return is_graph(value)


def _is_multigraph(_, value):
    return is_multigraph(value)


def _is_log(_, value):
    return is_log(value)


def _is_number(_, value):
    return is_whole_from(value, 0)


def _is_fraction(_, value):
    return is_fraction_from_zero(value)


def _are_weights(graph, value):
    return are_weights(graph, value)


def _are_shares(graph, value):
    return are_shares(graph, value)


def _is_orientation(graph, value):
    return is_orientation(graph, value)


def _are_preferences(multigraph, value):
    return is_preferences(multigraph, value)


def _is_matching(multigraph, value):
    return is_matching(multigraph, value)


def _are_lists(multigraph, value):
    return is_lists(multigraph, value)


# Of each kind: whether a value, whatever it is, is such a part of a claim with this first part.
KINDS = {
    "graph": _is_graph,
    "multigraph": _is_multigraph,
    "log": _is_log,
    "number": _is_number,
    "fraction": _is_fraction,
    "weights": _are_weights,
    "shares": _are_shares,
    "orientation": _is_orientation,
    "preferences": _are_preferences,
    "matching": _is_matching,
    "lists": _are_lists,
}


def is_claim(value):
    """Whether the value, whatever it is, is a claim for the checker."""
    if type(value) is not tuple or not value or type(value[0]) is not str or value[0] not in FORMS:
        return False
    word, *parts = value
    kinds = FORMS[word]
    if len(parts) != len(kinds):
        return False
    for at, kind in enumerate(kinds):
        is_part = KINDS[kind]
        # What a part may be hangs on the first one, which has been looked at by then.
        if not is_part(parts[0], parts[at]):
            return False
    return True
