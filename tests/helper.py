"""Graphs to test with, and plain searches that share nothing with the program."""

from fractions import Fraction
from itertools import combinations, combinations_with_replacement, permutations, product
from math import gcd

HOUSE = (5, ((0, 1), (0, 3), (1, 2), (1, 4), (2, 3), (2, 4)))
FIVE = (5, ((0, 1), (0, 4), (1, 2), (2, 3), (3, 4)))
DOUBLED = (6, ((0, 1), (0, 4), (0, 5), (1, 2), (2, 3), (3, 4), (3, 5), (4, 5)))


class Odd:
    """A value of no kind that the program knows, equal to everything."""

    def __eq__(self, other):
        return True

    __hash__ = None


def nested(depth):
    value = ()
    for _ in range(depth):
        value = (value,)
    return value


ANY_VALUES = [
    None, True, False, 0, 1, 5, -1, 10 ** 39, "", "vertices 0\n", "?", b"", b"?", (), (0,), [], {}, {0: 1}, set(),
    frozenset(), object(), Odd(), len, int, 1j, range(3), nested(30), ((), ()), ("hole", (0, 1, 2, 3)),
]

NO_GRAPHS = ANY_VALUES + [
    (10, ()), (10, ((0, 1),)), (-1, ()), (2,), (2, (), ()), (True, ()), (False, ()), (None, ()), ("2", ()), ((2,), ()),
    [2, ()], (2, []), (2, [(0, 1)]), (2, None), (2, True), (2, "01"), (2, {}), (2, {(0, 1): 1}), (2, 0),
    (2, ((1, 0),)), (2, ((0, 1), (1, 0))), (2, ((0, 1), (0, 1))), (3, ((0, 2), (0, 1))), (3, ((1, 2), (0, 2))),
    (3, ((0, 1), (1, 2), (0, 2))), (2, ((0, 0),)), (2, ((0, 2),)), (2, ((2, 3),)), (2, ((-1, 1),)), (0, ((0, 1),)),
    (1, ((0, 1),)), (2, ([0, 1],)), (2, ((False, 1),)), (2, ((0, True),)), (3, ((True, 2),)), (2, ((0,),)),
    (2, ((0, 1, 1),)), (2, ((),)), (2, ((0, None),)), (2, (("0", "1"),)), (2, ((0, (1,)),)), (2, (0, 1)),
    (2, (None,)), (2, ("01",)), (2, ({0: 1},)), (3, ((0, 1), None)), (3, ((0, 1), [0, 2])), (2, ((0, nested(25)),)),
    (2, ((0, Odd()),)), (Odd(), ()), (2, Odd()), (2, (Odd(),)), (9, ((8, 9),)),
]


def bent(value):
    """Values that differ from this one, of tuples, numbers and texts, at one place, at any depth."""
    if type(value) is not tuple:
        if type(value) is str:
            return [value + " ", value.upper(), value[1:], value[:-1], "", value.encode(), (value,), [value], Odd(), None, 0]
        others = [
            value + 1, value - 1, -value, bool(value), True, False, str(value), None, (value,), [value], 10 ** 39,
            -10 ** 39, Odd(), (value, 1), {value: value},
        ]
        return [other for other in others if not is_among(other, [value])]
    found = [list(value), value + (0,), value + ((),), value + value[-1:] * 2, None, (value,), repr(value), {}]
    for at in range(len(value)):
        ahead, behind = value[:at], value[at + 1:]
        found.append(ahead + behind)
        found.append(ahead + (value[at], value[at]) + behind)
        found.append(value[:at - 1] + (value[at], value[at - 1]) + behind if at else value[::-1])
        found.extend(ahead + (other,) + behind for other in bent(value[at]))
    return [other for other in found if not is_among(other, [value])]


def is_among(value, right_ones):
    """Whether the value is one of these to the letter: a list is no tuple, True is no number."""
    return any(type(value) is type(one) and repr(value) == repr(one) for one in right_ones)


def all_pairs(many):
    return list(combinations(range(many), 2))


def graph_with(many, edges):
    """The GRAPH with these edges, told in any order and either way round."""
    return (many, tuple(sorted({(min(pair), max(pair)) for pair in edges})))


def graph_by(many, code):
    """The graph of which bit k of the code tells the k-th pair."""
    return (many, tuple(pair for at, pair in enumerate(all_pairs(many)) if code >> at & 1))


def all_graphs(many):
    return [graph_by(many, code) for code in range(2 ** len(all_pairs(many)))]


def opposite(graph):
    many, edges = graph
    return graph_with(many, set(all_pairs(many)) - set(edges))


def round_of(many):
    """The graph of so many vertices that go round."""
    return graph_with(many, [(at, (at + 1) % many) for at in range(many)])


def copied(graph, vertex, adjacent):
    """One vertex more, adjacent to what the vertex is adjacent to, and to it if asked for."""
    many, edges = graph
    near = [other for other in range(many) if (min(vertex, other), max(vertex, other)) in edges]
    more = [(other, many) for other in near + ([vertex] if adjacent else [])]
    return graph_with(many + 1, list(edges) + more)


def scattered(many, count):
    """Graphs spread over all densities, the same ones each time."""
    size = len(all_pairs(many))
    found, state = [], 12345
    codes = []
    for _ in range(3 * count):
        state = (state * 6364136223846793005 + 1442695040888963407) % 2 ** 64
        codes.append(state >> (64 - size))
    for at in range(count):
        one, other, third = codes[3 * at:3 * at + 3]
        found.append(graph_by(many, (one, one & other, one | other, one & (other | third))[at % 4]))
    return found


def renamed_by(graph, names):
    many, edges = graph
    return graph_with(many, [(names[one], names[other]) for one, other in edges])


def odd_rounds_and_kin():
    """Odd holes and antiholes of 5, 7, 9, alone, with an edge less or more, with copies, renamed."""
    found = []
    for many in (5, 7, 9):
        for graph in (round_of(many), opposite(round_of(many))):
            found.append(graph)
            found.append(renamed_by(graph, [at * 2 % many for at in range(many)]))
            for pair in all_pairs(many)[:many]:
                found.append(graph_with(many, set(graph[1]) ^ {pair}))
            if many < 9:
                found.extend([copied(graph, 0, True), copied(graph, many - 1, False), copied(graph, 2, True)])
                found.append(copied(copied(graph, 1, True), 0, False))
                found.append((many + 1, graph[1]))
                found.append(graph_with(many + 1, list(graph[1]) + [(at, many) for at in range(many)]))
    return found


def even_rounds():
    return [graph for many in (4, 6, 8) for graph in (round_of(many), opposite(round_of(many)))]


def small_graphs():
    return [graph for many in range(5) for graph in all_graphs(many)]


def extreme_graphs():
    """Of each size the graph without edges and the one with all."""
    return [graph for many in range(10) for graph in ((many, ()), opposite((many, ())))]


def lots_of(graph):
    """All lots of the graph's vertices."""
    many = graph[0]
    return [lot for size in range(many + 1) for lot in combinations(range(many), size)]


def induced_by(graph, lot):
    places = {vertex: at for at, vertex in enumerate(lot)}
    pairs = [(places[one], places[other]) for one, other in graph[1] if one in places and other in places]
    return graph_with(len(lot), pairs)


def is_colourable(graph, colours):
    many, edges = graph
    near = {vertex: [one for one, other in edges if other == vertex] for vertex in range(many)}

    def goes_on(told):
        if len(told) == many:
            return True
        barred = {told[other] for other in near[len(told)]}
        return any(goes_on(told + [colour]) for colour in range(colours) if colour not in barred)

    return goes_on([])


def chromatic_number_of(graph):
    return next(colours for colours in range(graph[0] + 1) if is_colourable(graph, colours))


def fewest_colours_of(graph):
    """The chromatic number by all ways to part the vertices into stable sets."""
    many, edges = graph

    def fewest(parts, vertex, bound):
        if vertex == many or len(parts) >= bound:
            return min(len(parts), bound)
        for at, part in enumerate(parts):
            if all((other, vertex) not in edges for other in part):
                bound = fewest(parts[:at] + [part + [vertex]] + parts[at + 1:], vertex + 1, bound)
        return fewest(parts + [[vertex]], vertex + 1, bound)

    return fewest([], 0, many)


def cliques_of(graph):
    """All cliques, () and those that are not maximal among them, each pair looked up."""
    return [lot for lot in lots_of(graph) if all(pair in graph[1] for pair in combinations(lot, 2))]


def stable_sets_of(graph):
    return [lot for lot in lots_of(graph) if not any(pair in graph[1] for pair in combinations(lot, 2))]


def maximal_of(lots):
    """The lots within no other one, ascending."""
    sets = [set(lot) for lot in lots]
    return tuple(sorted(lot for lot in lots if not any(set(lot) < other for other in sets)))


def modules_of(graph):
    """All modules, each vertex outside being looked at."""
    many, edges = graph
    found = []
    for lot in lots_of(graph):
        outside = [vertex for vertex in range(many) if vertex not in lot]
        near = [sum((min(one, vertex), max(one, vertex)) in edges for one in lot) for vertex in outside]
        if 2 <= len(lot) < many and all(number in (0, len(lot)) for number in near):
            found.append(lot)
    return tuple(sorted(found))


def self_complementary(many, choice):
    """A graph that vertices turned round by fours lead to its complement; bits of the choice tell which."""
    turned = [at // 4 * 4 + (at + 1) % 4 for at in range(many // 4 * 4)] + list(range(many // 4 * 4, many))
    edges, seen = set(), set()
    for pair in all_pairs(many):
        is_edge = choice & 1
        if pair not in seen:
            choice >>= 1
        while pair not in seen:
            seen.add(pair)
            if is_edge:
                edges.add(pair)
            is_edge = not is_edge
            pair = tuple(sorted((turned[pair[0]], turned[pair[1]])))
    return graph_with(many, edges)


def shuffles(many, count):
    """Orders of the numbers below this one, the same ones each time."""
    found = [tuple(range(many)), tuple(range(many))[::-1]]
    order, state = list(range(many)), 2024
    while len(found) < count:
        for at in range(many - 1, 0, -1):
            state = (state * 6364136223846793005 + 1442695040888963407) % 2 ** 64
            other = (state >> 40) % (at + 1)
            order[at], order[other] = order[other], order[at]
        found.append(tuple(order))
    return found


def greatest_clique_of(graph):
    many, edges = graph
    for size in range(many, -1, -1):
        if any(all(pair in edges for pair in combinations(lot, 2)) for lot in combinations(range(many), size)):
            return size


def greatest_stable_of(graph):
    return greatest_clique_of(opposite(graph))


def is_round_told_well(graph, vertices):
    """Whether the unlike vertices are a hole, word by word as the document tells it."""
    many, edges = graph
    size = len(vertices)
    if size < 4 or vertices[0] != min(vertices) or not vertices[1] < vertices[-1]:
        return False
    ring = {frozenset((vertices[at], vertices[(at + 1) % size])) for at in range(size)}
    inside = {frozenset(pair) for pair in edges if pair[0] in vertices and pair[1] in vertices}
    return ring == inside


def holes_of(graph):
    """All holes: each lot whose vertices all have two neighbours in it, walked round from its least one."""
    many, edges = graph
    near = {vertex: {sum(pair) - vertex for pair in edges if vertex in pair} for vertex in range(many)}
    found = []
    for lot in lots_of(graph):
        if len(lot) < 4 or any(len(near[vertex] & set(lot)) != 2 for vertex in lot):
            continue
        walk = [lot[0], min(near[lot[0]] & set(lot))]
        while True:
            ahead = (near[walk[-1]] & set(lot)) - {walk[-2]}
            if lot[0] in ahead:
                break
            walk.extend(ahead)
        if len(walk) == len(lot):
            found.append(tuple(walk))
    return tuple(sorted(found))


def odd_rounds_of(graph):
    """All ("hole", HOLE) and ("antihole", HOLE) of odd length."""
    told = [("hole", hole) for hole in holes_of(graph)] + [("antihole", hole) for hole in holes_of(opposite(graph))]
    return [(word, hole) for word, hole in told if len(hole) % 2]


def weights_for(many, count):
    """Weights of so many vertices: none above 0, alike, great and small ones, the same ones each time."""
    found = [(0,) * many, (1,) * many, (1000000,) * many, tuple(range(many))]
    state = 77
    while len(found) < count:
        row = []
        for _ in range(many):
            state = (state * 6364136223846793005 + 1442695040888963407) % 2 ** 64
            bound = (2, 4, 10, 1000001)[len(found) % 4]
            row.append((state >> 33) % bound if state >> 20 & 3 else 0)
        found.append(tuple(row))
    return found[:count]


def heaviest_of(graph, weights):
    return max(sum(weights[vertex] for vertex in lot) for lot in cliques_of(graph))


def holes_by_orders(graph):
    """All holes by trying each order of each lot."""
    lots = [lot for lot in lots_of(graph) if len(lot) >= 4]
    return tuple(sorted(way for lot in lots for way in permutations(lot) if is_round_told_well(graph, way)))


class Draws:
    """Numbers that look drawn, the same ones each time."""

    def __init__(self, seed):
        self.state = seed

    def below(self, bound):
        self.state = (self.state * 6364136223846793005 + 1442695040888963407) % 2 ** 64
        return (self.state >> 33) % bound

    def shuffled(self, row):
        left = list(row)
        return tuple(left.pop(self.below(len(left))) for _ in range(len(left)))

    def some_of(self, row):
        return tuple(value for value in row if self.below(2))


def is_plain(value):
    """Whether the value is built of tuples and of numbers from 0 on alone."""
    return set(repr(value)) <= set("0123456789,() ")


def is_right(condition, value):
    """Whether the value is plain and the condition holds for it, without an error."""
    try:
        return is_plain(value) and bool(condition(value))
    except (TypeError, ValueError):
        return False


SQUARE = (2, 2, ((0, 0), (0, 1), (1, 0), (1, 1)))
NO_MULTIGRAPHS = ANY_VALUES + [
    (10, 2, ()), (2, 10, ()), (-1, 2, ()), (2, -1, ()), (2, 2), (2, 2, (), ()), (True, 2, ()), (2, False, ()),
    (None, 2, ()), (2, "2", ()), [2, 2, ()], (2, 2, []), (2, 2, None), (2, 2, True), (2, 2, "00"), (2, 2, {}),
    (2, 2, {(0, 0): 1}), (2, 2, [(0, 0)]), (2, 2, ((0, 1), (0, 0))), (2, 2, ((1, 0), (0, 1))), (2, 2, ((0, 2),)),
    (2, 2, ((2, 0),)), (2, 3, ((2, 2),)), (3, 2, ((2, 2),)), (2, 2, ((-1, 0),)), (2, 2, ((0, -1),)), (0, 2, ((0, 0),)),
    (2, 0, ((0, 0),)), (1, 1, ((0, 0),) * 10), (2, 2, ([0, 0],)), (2, 2, ((False, 0),)), (2, 2, ((0, True),)),
    (2, 2, ((0,),)), (2, 2, ((0, 0, 0),)), (2, 2, ((),)), (2, 2, ((0, None),)), (2, 2, (("0", "1"),)), (2, 2, (0, 1)),
    (2, 2, ((0, (1,)),)), (2, 2, (None,)), (2, 2, ("01",)), (2, 2, ({0: 1},)), (2, 2, ((0, 0), None)),
    (2, 2, ((0, nested(25)),)), (2, 2, ((0, Odd()),)), (Odd(), 2, ()), (2, Odd(), ()), (2, 2, Odd()), (2, 2, (Odd(),)),
    (2, 2, ((0, 0),) * 2000), (10 ** 39, 2, ()), (2, 2, ((0, 10 ** 39),)),
]


def small_multigraphs():
    """All of up to two left and two right vertices and up to three edges."""
    found = []
    for left in range(3):
        for right in range(3):
            pairs = [(one, other) for one in range(left) for other in range(right)]
            rows = [()] + [row for size in (1, 2, 3) for row in combinations_with_replacement(pairs, size)]
            found.extend((left, right, row) for row in rows)
    return found


def greater_multigraphs(count):
    """Extreme ones, and drawn ones of up to nine edges."""
    threes = [(one, other) for one in range(3) for other in range(3)]
    found = [
        SQUARE, (9, 9, ()), (0, 9, ()), (9, 0, ()), (3, 3, tuple(threes)), (1, 1, ((0, 0),) * 9), (1, 2, ((0, 0),) * 9),
        (9, 1, tuple((at, 0) for at in range(9))), (1, 9, tuple((0, at) for at in range(9))),
        (9, 9, tuple((at, at) for at in range(9))), (2, 2, ((0, 0),) * 4 + ((1, 1),) * 5),
        (5, 4, tuple(sorted((at // 2, (at + 1) // 2 % 4) for at in range(9)))),
    ]
    draws = Draws(31)
    while len(found) < count:
        left, right = 1 + draws.below(5), 1 + draws.below(5)
        edges = sorted((draws.below(left), draws.below(right)) for _ in range(draws.below(10)))
        found.append((left, right, tuple(edges)))
    return found


def edges_at_of(multigraph):
    """For each left vertex the edges at it, and for each right vertex."""
    left, right, edges = multigraph
    rows = [[], []]
    for side, many in enumerate((left, right)):
        for vertex in range(many):
            rows[side].append([at for at in range(len(edges)) if edges[at][side] == vertex])
    return rows


def degree_of(multigraph):
    return max((len(row) for side in edges_at_of(multigraph) for row in side), default=0)


def line_graph_of(multigraph):
    meeting = {pair for side in edges_at_of(multigraph) for row in side for pair in combinations(row, 2)}
    return graph_with(len(multigraph[2]), meeting)


def preferences_for(multigraph, count, seed=5):
    """Drawn PREFERENCES of the multigraph."""
    draws = Draws(seed)
    return [tuple(tuple(map(draws.shuffled, side)) for side in edges_at_of(multigraph)) for _ in range(count)]


def all_preferences(multigraph):
    sides = [list(product(*[list(permutations(row)) for row in side])) for side in edges_at_of(multigraph)]
    return list(product(*sides))


def matchings_of(multigraph):
    """All matchings, ascending."""
    edges = multigraph[2]
    found = []
    for lot in lots_of((len(edges), ())):
        ends = [(side, edges[at][side]) for at in lot for side in (0, 1)]
        if len(set(ends)) == len(ends):
            found.append(lot)
    return sorted(found)


def gives_way(preferences, edge, other):
    """Whether the edge stands behind the other one at a vertex where both are."""
    rows = [row for side in preferences for row in side if edge in row and other in row]
    return any(row.index(edge) > row.index(other) for row in rows)


def stable_matchings_of(multigraph, preferences):
    """All matchings to one of which each edge outside gives way."""
    found = []
    for lot in matchings_of(multigraph):
        outside = set(range(len(multigraph[2]))) - set(lot)
        if all(any(gives_way(preferences, edge, inner) for inner in lot) for edge in outside):
            found.append(lot)
    return tuple(found)


def lists_for(multigraph, count, seed=9):
    """Drawn LISTS, short and long ones, of few colours and of many."""
    draws = Draws(seed)
    found = []
    for at in range(count):
        colours = range((2, 3, 4, 100)[at % 4])
        rows = []
        for _ in multigraph[2]:
            many = min(draws.below((3, 4, 5, 10)[at // 4 % 4]), len(colours))
            rows.append(tuple(sorted(draws.shuffled(colours)[:many])))
        found.append(tuple(rows))
    return found


def list_colourings_of(multigraph, lists):
    """All colourings from the lists, one after the other."""
    near = line_graph_of(multigraph)[1]

    def going_on(told):
        if len(told) == len(lists):
            yield told
            return
        barred = {told[one] for one, other in near if other == len(told)}
        for colour in lists[len(told)]:
            if colour not in barred:
                yield from going_on(told + (colour,))

    return going_on(())


def led_on(graph, change):
    """The graph behind the change; None if it does not fit. The vertices go by names meanwhile."""
    many, edges = graph
    kind, told = change[0], change[1:]
    names, pairs = list("abcdefghi"[:many]), {frozenset(("abcdefghi"[one], "abcdefghi"[two])) for one, two in edges}
    numbers = told[0] if kind == "vertex" else told
    if any(number >= many for number in numbers) or (kind == "vertex" and many == 9):
        return None
    called = [names[number] for number in numbers]
    if kind == "vertex":
        names.append("new")
        pairs |= {frozenset((name, "new")) for name in called}
    elif kind == "out":
        names.remove(called[0])
        pairs = {pair for pair in pairs if called[0] not in pair}
    elif (frozenset(called) in pairs) == (kind == "edge"):
        return None
    else:
        pairs ^= {frozenset(called)}
    return graph_with(len(names), [[names.index(name) for name in pair] for pair in pairs])


def all_changes():
    lots = lots_of((9, ()))
    pairs = all_pairs(9)
    return ([("vertex", lot) for lot in lots] + [("out", vertex) for vertex in range(9)]
            + [("edge",) + pair for pair in pairs] + [("cut",) + pair for pair in pairs])


def drawn_changes(count, seed=3):
    """Changes of all kinds, few of vertices beyond those of a graph of some vertices."""
    draws = Draws(seed)
    found = []
    for _ in range(count):
        kind = ("vertex", "vertex", "out", "edge", "edge", "edge", "cut", "cut")[draws.below(8)]
        bound = 2 + draws.below(8)
        one, two = sorted(draws.shuffled(range(bound))[:2])
        found.append({
            "vertex": ("vertex", draws.some_of(range(bound - 1))), "out": ("out", draws.below(bound)),
            "edge": ("edge", one, two), "cut": ("cut", one, two),
        }[kind])
    return found


def drawn_log(count, seed=3):
    """(LOG, GRAPHS): of so many changes that fit one another, and the graphs behind each."""
    graph, log, graphs = (0, ()), [], [(0, ())]
    for change in drawn_changes(40 * count + 400, seed):
        behind = led_on(graph, change)
        if behind is not None and len(log) < count:
            log.append(change)
            graphs.append(behind)
            graph = behind
    assert len(log) == count
    return tuple(log), graphs


def cutsets_of(graph):
    """All clique cutsets: each vertex put into one of the three, in all ways."""
    many, edges = graph
    found = []
    for sides in product(range(3), repeat=many):
        lots = tuple(tuple(vertex for vertex in range(many) if sides[vertex] == side) for side in range(3))
        if not lots[1] or not lots[2] or lots[1][0] > lots[2][0]:
            continue
        if any({sides[one], sides[two]} == {1, 2} for one, two in edges):
            continue
        if all(pair in edges for pair in combinations(lots[0], 2)):
            found.append(lots)
    return sorted(found)


def is_cover_told(graph, weights, value):
    """Whether the value is a COVER of the weights, word by word as the document tells it."""
    if type(value) is not tuple or any(type(part) is not tuple or len(part) != 2 for part in value):
        return False
    stable = stable_sets_of(graph)[1:]
    if not all(is_among(lot, stable) and type(times) is int and times > 0 for lot, times in value):
        return False
    lots = [lot for lot, _ in value]
    if lots != sorted(set(lots)):
        return False
    return all(sum(times for lot, times in value if vertex in lot) >= weights[vertex] for vertex in range(graph[0]))


def is_pair_told(graph, weights, value):
    if type(value) is not tuple or len(value) != 2:
        return False
    clique, cover = value
    if not is_among(clique, cliques_of(graph)) or not is_cover_told(graph, weights, cover):
        return False
    return sum(weights[vertex] for vertex in clique) == sum(times for _, times in cover)


def as_told(number):
    """The number as the document tells fractions."""
    return (Fraction(number).numerator, Fraction(number).denominator)


def is_fraction(value):
    if type(value) is not tuple or len(value) != 2 or any(type(part) is not int for part in value):
        return False
    return value[1] > 0 and gcd(*value) == 1


def are_shares_told(graph, value):
    if type(value) is not tuple or len(value) != graph[0]:
        return False
    return all(is_fraction(share) and share[0] >= 0 for share in value)


def is_fractional_clique_told(graph, value):
    """Whether the value is a fractional clique: each stable set is looked at, not the maximal ones alone."""
    if not are_shares_told(graph, value):
        return False
    return all(sum(Fraction(*value[vertex]) for vertex in lot) <= 1 for lot in stable_sets_of(graph))


def is_fractional_cover_told(graph, weights, value):
    if type(value) is not tuple or any(type(part) is not tuple or len(part) != 2 for part in value):
        return False
    stable = stable_sets_of(graph)[1:]
    if not all(is_among(lot, stable) and is_fraction(times) and times[0] > 0 for lot, times in value):
        return False
    lots = [lot for lot, _ in value]
    if lots != sorted(set(lots)):
        return False
    covered = [sum(Fraction(*times) for lot, times in value if vertex in lot) for vertex in range(graph[0])]
    return all(sums >= weight for sums, weight in zip(covered, weights))


def on(graph, lot, share=(1, 1)):
    """The SHARES that are this one on the lot and 0 elsewhere."""
    return tuple(share if vertex in lot else (0, 1) for vertex in range(graph[0]))


def solved(rows):
    """The only solution of the equations, each a row with its sum behind it; None for none or several."""
    rows = [[Fraction(number) for number in row] for row in rows]
    width = len(rows[0]) - 1 if rows else 0
    done = 0
    for at in range(width):
        pivot = next((place for place in range(done, len(rows)) if rows[place][at]), None)
        if pivot is None:
            return None
        rows[done], rows[pivot] = rows[pivot], rows[done]
        rows[done] = [number / rows[done][at] for number in rows[done]]
        for place, row in enumerate(rows):
            if place != done and row[at]:
                rows[place] = [one - row[at] * two for one, two in zip(row, rows[done])]
        done += 1
    if any(row[-1] for row in rows[done:]):
        return None
    return [row[-1] for row in rows[:done]]


def equations_of(graph):
    """Share 0 for each vertex, sum 1 over each maximal clique."""
    many = graph[0]
    zeros = [[int(at == vertex) for at in range(many)] + [0] for vertex in range(many)]
    lots = maximal_of(cliques_of(graph))
    return zeros + [[int(at in lot) for at in range(many)] + [1] for lot in lots if lot]


def is_in_told(graph, shares):
    """Each clique is looked at, not the maximal ones alone."""
    return all(sum(Fraction(*shares[vertex]) for vertex in lot) <= 1 for lot in cliques_of(graph))


def is_corner_told(graph, shares):
    if not is_in_told(graph, shares):
        return False
    numbers = [Fraction(*share) for share in shares]
    kept = [row for row in equations_of(graph) if sum(one * two for one, two in zip(row, numbers)) == row[-1]]
    return solved(kept) == numbers if graph[0] else True


def corners_told(graph):
    """By all choices of as many equations as there are vertices."""
    found = set()
    for chosen in combinations(equations_of(graph), graph[0]):
        numbers = solved(list(chosen))
        if numbers is not None and min(numbers, default=0) >= 0:
            shares = tuple(as_told(number) for number in numbers)
            if shares not in found and is_in_told(graph, shares):
                found.add(shares)
    return tuple(sorted(found, key=lambda shares: [Fraction(*share) for share in shares]))


def all_orientations(graph):
    ways = [[((one, two),), ((two, one),), ((one, two), (two, one))] for one, two in graph[1]]
    return [tuple(sorted(sum(chosen, ()))) for chosen in product(*ways)]


def some_orientations(graph, count):
    """Orientations of all kinds, the same ones each time: the first ones lead back nowhere."""
    found, state = [], 4711
    for at in range(count):
        order = shuffles(graph[0], at + 1)[at]
        arcs = []
        for one, two in graph[1]:
            state = (state * 6364136223846793005 + 1442695040888963407) % 2 ** 64
            first, last = sorted((one, two), key=lambda vertex: order[vertex])
            turn = (state >> 40) % 8 if at >= count // 3 else 7
            arcs.extend({0: [(last, first)], 1: [(first, last), (last, first)]}.get(turn, [(first, last)]))
        found.append(tuple(sorted(arcs)))
    return found


def is_against(graph, arcs, lot):
    """Whether no vertex of the clique has arcs from all others of it."""
    return not any(all((other, vertex) in arcs for other in lot if other != vertex) for vertex in lot)


def cliques_against(graph, arcs):
    return [lot for lot in cliques_of(graph)[1:] if is_against(graph, set(arcs), lot)]


def kernels_told(graph, arcs):
    """Each lot is looked at, arc by arc."""
    pairs = set(arcs)
    found = []
    for lot in lots_of(graph):
        if any((one, two) in pairs or (two, one) in pairs for one in lot for two in lot):
            continue
        outside = [vertex for vertex in range(graph[0]) if vertex not in lot]
        if all(any((vertex, inner) in pairs for inner in lot) for vertex in outside):
            found.append(lot)
    return tuple(sorted(found))


def against_told(graph, hole):
    """The arcs against the hole, word by word as the document tells them."""
    many, edges = graph
    size = len(hole)
    arcs = set()
    for at in range(size):
        def place(steps):
            return hole[(at + steps) % size]
        if tuple(sorted(hole[:2])) in edges:
            arcs.add((place(0), place(1)))
        elif size == 5:
            arcs.add((place(0), place(2)))
        elif size == 7:
            arcs |= {(place(0), place(2)), (place(3), place(0))}
        else:
            arcs |= {(place(0), place(2)), (place(0), place(4)), (place(0), place(3)), (place(3), place(0))}
    for vertex in set(range(many)) - set(hole):
        for other in range(many):
            if (min(vertex, other), max(vertex, other)) in edges and (other in hole or other < vertex):
                arcs.add((vertex, other))
    return tuple(sorted(arcs))


def cover_of_size(graph, weights, size):
    """A COVER of the weights, which are small, of just this size, by a search; None."""
    stable = maximal_of(stable_sets_of(graph))

    def search(left, most):
        vertex = next((at for at, weight in enumerate(left) if weight > 0), None)
        if vertex is None or not most:
            return [] if vertex is None else None
        for lot in stable:
            if vertex in lot:
                rest = search(tuple(weight - (at in lot) for at, weight in enumerate(left)), most - 1)
                if rest is not None:
                    return [lot] + rest
        return None

    found = search(tuple(weights), size)
    if found is None or (found == [] and size):
        return None
    found.extend(found[:1] * (size - len(found)))
    return tuple((lot, found.count(lot)) for lot in sorted(set(found)))
