"""Pairs of a claim that is so and a paper that the checker takes for it."""

from perfectgraphs.changes import clique_cutset, graph_of
from perfectgraphs.cliques import colouring, stable_masks
from perfectgraphs.errors import InvalidNumber, NoPair
from perfectgraphs.fractions import fractional_clique, fractional_cover, fractional_number
from perfectgraphs.graphs import is_whole_from, lot_of
from perfectgraphs.holes import odd_one
from perfectgraphs.isomorphisms import renaming_to
from perfectgraphs.lists import list_colouring
from perfectgraphs.matchings import edges_against
from perfectgraphs.orientations import clique_against, kernels, without_arc_to
from perfectgraphs.polytopes import is_corner
from perfectgraphs.weights import pair, weight_of

NOTHING = ()


def certify_perfect(graph):
    """Whether the graph is perfect."""
    odd = odd_one(graph)
    if odd is None:
        return (("perfect", graph), NOTHING)
    return (("not perfect", graph), odd)


def certify_weight(graph, weights):
    """What a heaviest clique weighs, if the vertices with weights above 0 induce a perfect graph."""
    paper = pair(graph, weights)
    if paper is None:
        raise NoPair()
    return (("weighs", graph, weights, weight_of(paper[0], weights)), paper)


def certify_fractional(graph, weights):
    """What the fractional number is."""
    claim = ("fractional", graph, weights, fractional_number(graph, weights))
    return (claim, (fractional_clique(graph, weights), fractional_cover(graph, weights)))


def certify_colours(graph, many):
    """Whether so many colours are enough."""
    paper = colouring(graph)
    if not is_whole_from(many, 0):
        raise InvalidNumber(many)
    if all([colour < many for colour in paper]):
        return (("colours", graph, many), paper)
    return (("not colours", graph, many), NOTHING)


def certify_corner(graph, shares):
    """Whether the shares are a corner of the clique polytope."""
    if is_corner(graph, shares):
        return (("corner", graph, shares), NOTHING)
    return (("no corner", graph, shares), NOTHING)


def certify_isomorphic(graph, other):
    """Whether the two graphs are isomorphic."""
    paper = renaming_to(graph, other)
    if paper is None:
        return (("not isomorphic", graph, other), NOTHING)
    return (("isomorphic", graph, other), paper)


def certify_acyclic(graph, orientation):
    """Whether the orientation is clique-acyclic."""
    paper = clique_against(graph, orientation)
    if paper is None:
        return (("clique-acyclic", graph, orientation), NOTHING)
    return (("not clique-acyclic", graph, orientation), paper)


def certify_kernel(graph, orientation):
    """Whether the orientation has a kernel."""
    found = kernels(graph, orientation)
    if found:
        return (("kernel", graph, orientation), found[0])
    lots = sorted([lot_of(mask) for mask in stable_masks(graph)])
    paper = tuple([without_arc_to(graph, orientation, lot)[0] for lot in lots])
    return (("no kernel", graph, orientation), paper)


def certify_stable(multigraph, preferences, matching):
    """Whether the matching is stable."""
    found = edges_against(multigraph, preferences, matching)
    if found:
        return (("not stable", multigraph, preferences, matching), found[0])
    return (("stable", multigraph, preferences, matching), NOTHING)


def certify_lists(multigraph, lists):
    """Whether there is a colouring from the lists."""
    paper = list_colouring(multigraph, lists)
    if paper is None:
        return (("not from lists", multigraph, lists), NOTHING)
    return (("from lists", multigraph, lists), paper)


def certify_cutset(graph):
    """Whether the graph has a clique cutset."""
    paper = clique_cutset(graph)
    if paper is None:
        return (("no clique cutset", graph), NOTHING)
    return (("clique cutset", graph), paper)


def certify_led(log):
    """To which graph the log leads."""
    return (("led", log, graph_of(log)), NOTHING)
