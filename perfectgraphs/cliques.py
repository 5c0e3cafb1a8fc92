"""Clique numbers and chromatic numbers of all induced subgraphs of a graph at once."""


def clique_numbers(neighbours):
    """For each mask the clique number of what it induces, from the neighbours' masks."""
    numbers = [0]
    for mask in range(1, 1 << len(neighbours)):
        greatest = mask.bit_length() - 1
        without_it = numbers[mask ^ (1 << greatest)]
        with_it = 1 + numbers[mask & neighbours[greatest]]
        numbers.append(max(without_it, with_it))
    return numbers


def chromatic_numbers(neighbours):
    """For each mask the chromatic number of what it induces, from the neighbours' masks."""
    colours = _stable_masks_by_greatest(neighbours)
    numbers = [0]
    for mask in range(1, 1 << len(neighbours)):
        # The colour of the greatest vertex is some stable set, the rest needs its own colours.
        fitting = [colour for colour in colours[mask.bit_length() - 1] if colour & mask == colour]
        numbers.append(1 + min([numbers[mask ^ colour] for colour in fitting]))
    return numbers


def _stable_masks_by_greatest(neighbours):
    found = [0]
    rows = []
    for vertex, near in enumerate(neighbours):
        row = [mask | 1 << vertex for mask in found if mask & near == 0]
        rows.append(row)
        found = found + row
    return rows
