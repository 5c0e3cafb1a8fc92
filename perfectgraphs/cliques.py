"""Cliques, stable sets and colourings of graphs."""

from perfectgraphs.graphs import check_graph, check_lot, complement, is_whole_from, lot_of, mask_of, neighbour_masks


def is_clique(graph, lot):
    """Whether the vertices of the lot are adjacent two by two."""
    check_lot(graph, lot)
    neighbours = neighbour_masks(graph)
    whole = mask_of(lot)
    return all([(neighbours[vertex] | 1 << vertex) & whole == whole for vertex in lot])


def is_stable(graph, lot):
    """Whether no two vertices of the lot are adjacent."""
    return is_clique(complement(graph), lot)


def cliques(graph):
    """The ascending tuple of all maximal cliques."""
    check_graph(graph)
    neighbours = neighbour_masks(graph)
    # No vertex is its own neighbour, so what is adjacent to all of a clique stands outside.
    masks = clique_masks(neighbours)
    maximal = [mask for mask in masks if not any([near & mask == mask for near in neighbours])]
    return tuple(sorted([lot_of(mask) for mask in maximal]))


def stable_sets(graph):
    """The ascending tuple of all maximal stable sets."""
    return cliques(complement(graph))


def clique_masks(neighbours):
    """The masks of all cliques, () too, from the neighbours' masks."""
    found = [0]
    for vertex, near in enumerate(neighbours):
        found = found + [mask | 1 << vertex for mask in found if mask & near == mask]
    return found


def stable_masks(graph):
    """The masks of all stable sets of a GRAPH, () too."""
    return clique_masks(neighbour_masks(complement(graph)))


def clique_number(graph):
    """How many vertices a greatest clique has."""
    check_graph(graph)
    return clique_numbers(neighbour_masks(graph))[-1]


def stable_number(graph):
    """How many vertices a greatest stable set has."""
    return clique_number(complement(graph))


def chromatic_number(graph):
    """The least number of colours that are enough for the vertices."""
    check_graph(graph)
    return chromatic_numbers(neighbour_masks(graph))[-1]


def is_colouring(graph, value):
    """Whether the value, whatever it is, is a colouring of the graph."""
    check_graph(graph)
    many, edges = graph
    if type(value) is not tuple or len(value) != many:
        return False
    if not all([is_whole_from(colour, 0) for colour in value]):
        return False
    return all([value[one] != value[other] for one, other in edges])


def colouring(graph):
    """Any colouring with the least number of colours, 0, 1, 2 and so on."""
    check_graph(graph)
    neighbours = neighbour_masks(graph)
    numbers = chromatic_numbers(neighbours)
    rows = _stable_masks_by_greatest(neighbours)
    colours = [0] * len(neighbours)
    left = len(numbers) - 1
    while left:
        # A colour of the greatest vertex left is a best one if the rest needs one less.
        fitting = [mask for mask in rows[left.bit_length() - 1] if mask & left == mask]
        best = [mask for mask in fitting if numbers[left ^ mask] < numbers[left]]
        for vertex in lot_of(best[0]):
            colours[vertex] = numbers[left] - 1
        left ^= best[0]
    return tuple(colours)


def clique_numbers(neighbours):
    """For each mask the clique number of what it induces, from the neighbours' masks."""
    numbers = [0]
    for mask in range(1, 1 << len(neighbours)):
        greatest = mask.bit_length() - 1
        without_it = numbers[mask ^ (1 << greatest)]
        with_it = 1 + numbers[mask & neighbours[greatest]]
        numbers.append(max(without_it, with_it))
    return numbers


def chromatic_numbers(neighbours):
    """For each mask the chromatic number of what it induces, from the neighbours' masks."""
    colours = _stable_masks_by_greatest(neighbours)
    numbers = [0]
    for mask in range(1, 1 << len(neighbours)):
        # The colour of the greatest vertex is some stable set, the rest needs its own colours.
        fitting = [colour for colour in colours[mask.bit_length() - 1] if colour & mask == colour]
        numbers.append(1 + min([numbers[mask ^ colour] for colour in fitting]))
    return numbers


def _stable_masks_by_greatest(neighbours):
    found = [0]
    rows = []
    for vertex, near in enumerate(neighbours):
        row = [mask | 1 << vertex for mask in found if mask & near == 0]
        rows.append(row)
        found = found + row
    return rows
