"""The checker: which papers it takes for which claims."""

from perfectgraphs.changes import clique_cutset, graph_of, is_clique_cutset
from perfectgraphs.claims import is_claim
from perfectgraphs.cliques import chromatic_number, clique_number, is_colouring, stable_masks, stable_number
from perfectgraphs.fractions import are_shares, is_fractional_clique, is_fractional_cover, worth_of
from perfectgraphs.graphs import induced, is_lot, is_tuple_of_two, is_whole_from, lot_of
from perfectgraphs.holes import is_antihole, is_hole
from perfectgraphs.isomorphisms import are_isomorphic, does_lead
from perfectgraphs.lists import is_from_lists, list_colouring
from perfectgraphs.matchings import edges_against, is_stable_matching
from perfectgraphs.orientations import is_clique_acyclic, is_clique_against, is_kernel, is_orientation, kernels
from perfectgraphs.orientations import without_arc_to
from perfectgraphs.perfection import is_perfect
from perfectgraphs.polytopes import are_whole, is_corner
from perfectgraphs.rationals import total
from perfectgraphs.weights import is_pair, weight_of


def _is_odd_hole(graph, value):
    return is_hole(graph, value) and len(value) % 2 == 1


def _is_odd_antihole(graph, value):
    return is_antihole(graph, value) and len(value) % 2 == 1


def _is_thin_lot(graph, value):
    if not is_lot(graph, value):
        return False
    inner = induced(graph, value)
    return inner[0] > clique_number(inner) * stable_number(inner)


def _is_broken_corner(graph, value):
    return are_shares(graph, value) and is_corner(graph, value) and not are_whole(value)


def _is_without_kernel(graph, value):
    return is_orientation(graph, value) and is_clique_acyclic(graph, value) and kernels(graph, value) == ()


# What tells that a graph is not perfect, by the word that stands ahead of it.
PROOFS = {
    "hole": _is_odd_hole,
    "antihole": _is_odd_antihole,
    "lot": _is_thin_lot,
    "corner": _is_broken_corner,
    "orientation": _is_without_kernel,
}


def _is_nothing(paper):
    return type(paper) is tuple and len(paper) == 0


def _perfect(parts, paper):
    return _is_nothing(paper) and is_perfect(parts[0])


def _not_perfect(parts, paper):
    if not is_tuple_of_two(paper) or type(paper[0]) is not str or paper[0] not in PROOFS:
        return False
    is_told = PROOFS[paper[0]]
    return is_told(parts[0], paper[1])


def _weighs(parts, paper):
    graph, weights, number = parts
    return is_pair(graph, weights, paper) and weight_of(paper[0], weights) == number


def _fractional(parts, paper):
    graph, weights, number = parts
    if not is_tuple_of_two(paper):
        return False
    shares, cover = paper
    if not is_fractional_clique(graph, shares) or not is_fractional_cover(graph, weights, cover):
        return False
    return worth_of(shares, weights) == number and total([times for _, times in cover]) == number


def _colours(parts, paper):
    graph, many = parts
    return is_colouring(graph, paper) and all([colour < many for colour in paper])


def _not_colours(parts, paper):
    graph, many = parts
    return _is_nothing(paper) and chromatic_number(graph) > many


def _corner(parts, paper):
    graph, shares = parts
    return _is_nothing(paper) and is_corner(graph, shares)


def _no_corner(parts, paper):
    graph, shares = parts
    return _is_nothing(paper) and not is_corner(graph, shares)


def _isomorphic(parts, paper):
    graph, other = parts
    return does_lead(graph, other, paper)


def _not_isomorphic(parts, paper):
    graph, other = parts
    return _is_nothing(paper) and not are_isomorphic(graph, other)


def _clique_acyclic(parts, paper):
    graph, orientation = parts
    return _is_nothing(paper) and is_clique_acyclic(graph, orientation)


def _not_clique_acyclic(parts, paper):
    graph, orientation = parts
    return is_clique_against(graph, orientation, paper)


def _kernel(parts, paper):
    graph, orientation = parts
    return is_lot(graph, paper) and is_kernel(graph, orientation, paper)


def _no_kernel(parts, paper):
    graph, orientation = parts
    lots = sorted([lot_of(mask) for mask in stable_masks(graph)])
    if type(paper) is not tuple or len(paper) != len(lots):
        return False
    # Only whole numbers are looked for, as True is 1 for Python.
    if not all([is_whole_from(vertex, 0) for vertex in paper]):
        return False
    return all([vertex in without_arc_to(graph, orientation, lot) for vertex, lot in zip(paper, lots)])


def _stable(parts, paper):
    multigraph, preferences, matching = parts
    return _is_nothing(paper) and is_stable_matching(multigraph, preferences, matching)


def _not_stable(parts, paper):
    multigraph, preferences, matching = parts
    return is_whole_from(paper, 0) and paper in edges_against(multigraph, preferences, matching)


def _from_lists(parts, paper):
    multigraph, lists = parts
    return is_from_lists(multigraph, lists, paper)


def _not_from_lists(parts, paper):
    multigraph, lists = parts
    return _is_nothing(paper) and list_colouring(multigraph, lists) is None


def _clique_cutset(parts, paper):
    return is_clique_cutset(parts[0], paper)


def _no_clique_cutset(parts, paper):
    return _is_nothing(paper) and clique_cutset(parts[0]) is None


def _led(parts, paper):
    log, graph = parts
    return _is_nothing(paper) and graph_of(log) == graph


# Of each claim, by its word: whether the paper is one for its parts.
JUDGES = {
    "perfect": _perfect,
    "not perfect": _not_perfect,
    "weighs": _weighs,
    "fractional": _fractional,
    "colours": _colours,
    "not colours": _not_colours,
    "corner": _corner,
    "no corner": _no_corner,
    "isomorphic": _isomorphic,
    "not isomorphic": _not_isomorphic,
    "clique-acyclic": _clique_acyclic,
    "not clique-acyclic": _not_clique_acyclic,
    "kernel": _kernel,
    "no kernel": _no_kernel,
    "stable": _stable,
    "not stable": _not_stable,
    "from lists": _from_lists,
    "not from lists": _not_from_lists,
    "clique cutset": _clique_cutset,
    "no clique cutset": _no_clique_cutset,
    "led": _led,
}


def accepts(claim, paper):
    """Whether the one is a claim for the checker, and the other one a paper for it, whatever both are."""
    if not is_claim(claim):
        return False
    word, *parts = claim
    is_for = JUDGES[word]
    return is_for(parts, paper)
