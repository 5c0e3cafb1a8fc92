import unittest
from itertools import product

import helper
from helper import SQUARE
from perfectgraphs.errors import InvalidColours
from perfectgraphs.lists import colours_by, galvin_preferences, is_from_lists, is_lists, list_colouring
from perfectgraphs.matchings import is_preferences
from perfectgraphs.multigraphs import edge_colouring

PREFERENCES = (((0, 1), (3, 2)), ((2, 0), (1, 3)))
MANY = helper.greater_multigraphs(50)
NINES = tuple(range(9))


def are_told(multigraph, value):
    return (len(value) == len(multigraph[2])
            and all(len(row) < 10 and list(row) == sorted(set(row)) and set(row) <= set(range(100)) for row in value))


def is_from_told(multigraph, lists, value):
    near = helper.line_graph_of(multigraph)[1]
    return (len(value) == len(lists) and all(colour in row for colour, row in zip(value, lists))
            and all(value[one] != value[two] for one, two in near))


def colours_told(multigraph, preferences, lists):
    """The colours by preferences, step by step: of each colour the best stable matching of what waits for it."""
    colours, all_matchings = [None] * len(lists), helper.matchings_of(multigraph)
    for colour in sorted({colour for row in lists for colour in row}):
        waiting = [edge for edge, row in enumerate(lists) if colour in row and colours[edge] is None]
        matchings = []
        for lot in all_matchings:
            outside = [edge for edge in waiting if edge not in lot]
            if set(lot) <= set(waiting) and all(
                    any(helper.gives_way(preferences, edge, inner) for inner in lot) for edge in outside):
                matchings.append(lot)

        def places(lot):
            return [row.index(edge) for row in preferences[0] for edge in row if edge in lot]
        best = [lot for lot in matchings
                if all(mine <= other for matching in matchings for mine, other in zip(places(lot), places(matching)))]
        assert len(best) == 1
        for edge in best[0]:
            colours[edge] = colour
    return tuple(colours)


def long_lists(multigraph, count, seed):
    """LISTS of just as many colours as the greatest degree, of few colours in all."""
    draws, degree = helper.Draws(seed), helper.degree_of(multigraph)
    found = []
    for at in range(count):
        colours = range(min(100, degree + at % 4))
        found.append(tuple(tuple(sorted(draws.shuffled(colours)[:degree])) for _ in multigraph[2]))
    return found


class Session(unittest.TestCase):
    def test_answers(self):
        self.assertEqual(
            [colours_by(SQUARE, PREFERENCES, ((0, 1),) * 4), colours_by(SQUARE, PREFERENCES, ((0,), (0,), (0,), (1,))),
             galvin_preferences(SQUARE, (0, 1, 1, 0))],
            [(0, 1, 1, 0), (None, 0, 0, 1), (((1, 0), (2, 3)), ((0, 2), (3, 1)))])
        self.assertEqual(
            [is_lists(SQUARE, ((0,), (1, 0), (), ())),
             is_from_lists(SQUARE, ((0,), (1,), (1, 2), (0, 3)), (0, 1, 2, 0)),
             list_colouring(SQUARE, ((0,), (0,), (1,), (2,))),
             list_colouring(SQUARE, ((0,), (0, 1), (0, 1), (1, 2)))],
            [False, True, None, (0, 1, 1, 2)])


class Lists(unittest.TestCase):
    def test_right_ones(self):
        for multigraph in MANY + helper.small_multigraphs():
            for lists in helper.lists_for(multigraph, 8) + [((),) * len(multigraph[2]), (NINES,) * len(multigraph[2])]:
                self.assertIs(is_lists(multigraph, lists), True, (multigraph, lists))
                self.assertIs(is_lists(value=lists, multigraph=multigraph), True)

    def test_bent_values(self):
        for multigraph in MANY[::6]:
            for right in helper.lists_for(multigraph, 2) + [((0, 99),) * len(multigraph[2])]:
                for value in helper.bent(right):
                    told = helper.is_right(lambda rows: are_told(multigraph, rows), value)
                    self.assertIs(is_lists(multigraph, value), told, (multigraph, value))

    def test_edges_of_the_bounds(self):
        one = (1, 1, ((0, 0),))
        self.assertEqual(
            [is_lists(one, (row,)) for row in ((0,), (99,), (100,), (-1,), NINES, NINES + (99,), (1, 1), (2, 1), (0, 1, 1))],
            [True, True, False, False, True, False, False, False, False])
        self.assertEqual([is_lists(one, value) for value in ((), ((0,), (0,)), (0,), ((),))], [False, False, False, True])

    def test_values_of_any_kind(self):
        rest = ((0,), (1,), ())
        strange = [list(rest), ((0,),) + ([0], (1,), ()), ((True,),) + rest, ((False,),) + rest, (("0",),) + rest, ("0",) + rest,
                   ((None,),) + rest, (None,) + rest, (((0,),),) + rest, (helper.Odd(),) + rest, ((helper.Odd(),),) + rest,
                   ((0, helper.Odd()),) + rest, ({0: 1},) + rest, ((10 ** 39,),) + rest, rest, ((0,),) * 2000, (NINES * 200,) + rest]
        for value in helper.ANY_VALUES + strange:
            self.assertIs(is_lists(SQUARE, value), False, repr(value))
            self.assertIs(is_lists((2, 2, ()), value), helper.is_among(value, [()]), repr(value))


class FromLists(unittest.TestCase):
    def test_all_colourings_of_few_edges(self):
        for multigraph in helper.small_multigraphs()[::2] + [SQUARE]:
            for lists in helper.lists_for(multigraph, 6) + long_lists(multigraph, 2, 1):
                for value in product(range(-1, 4), repeat=len(lists)):
                    told = is_from_told(multigraph, lists, value)
                    self.assertIs(is_from_lists(multigraph, lists, value), told, (multigraph, lists, value))

    def test_bent_values(self):
        for multigraph in MANY[::4]:
            for lists in long_lists(multigraph, 2, 2):
                right = next(helper.list_colourings_of(multigraph, lists))
                self.assertIs(is_from_lists(value=right, lists=lists, multigraph=multigraph), True)
                for value in helper.bent(right):
                    told = helper.is_right(lambda row: is_from_told(multigraph, lists, row), value)
                    self.assertIs(is_from_lists(multigraph, lists, value), told, (multigraph, lists, value))

    def test_values_of_any_kind(self):
        lists = ((0, 1),) * 4
        strange = [[0, 1, 1, 0], (False, 1, 1, 0), (0, True, True, 0), (0, 1, 1), (0, 1, 1, 0, 0), (0, 1, 1, "0"),
                   (0, 1, 1, None), (0, 1, 1, (0,)), (helper.Odd(),) * 4, (0, 1, 1, helper.Odd()), (0, 1, 2, 0), lists]
        for value in helper.ANY_VALUES + strange:
            self.assertIs(is_from_lists(SQUARE, lists, value), False, repr(value))
            self.assertIs(is_from_lists((0, 0, ()), (), value), helper.is_among(value, [()]), repr(value))


class ListColourings(unittest.TestCase):
    def check(self, multigraph, lists):
        told = list_colouring(multigraph, lists)
        self.assertEqual(list_colouring(lists=lists, multigraph=multigraph), told)
        if told is not None:
            self.assertTrue(helper.is_right(lambda value: is_from_told(multigraph, lists, value), told), (multigraph, lists))
        is_none = next(helper.list_colourings_of(multigraph, lists), None) is None
        self.assertIs(told is None, is_none, (multigraph, lists))
        return is_none

    def test_none_exactly_where_there_is_none(self):
        answers = [self.check(multigraph, lists) for multigraph in MANY + helper.small_multigraphs()
                   for lists in helper.lists_for(multigraph, 16) + long_lists(multigraph, 4, 3)]
        self.assertGreater(min(answers.count(True), answers.count(False)), 200)

    def test_one_colour_less_than_edges_at_a_vertex(self):
        for many in range(1, 10):
            star = (1, many, tuple((0, at) for at in range(many)))
            self.assertIsNone(list_colouring(star, (NINES[:many - 1],) * many))
            self.assertEqual(sorted(list_colouring(star, (NINES[:many],) * many)), list(range(many)))
            self.assertIs(self.check(star, tuple((at, 9 + at) for at in range(many))), False)

    def test_all_lists_of_three_colours_on_the_square(self):
        rows = [(0,), (1,), (2,), (0, 1), (0, 2), (1, 2)]
        for lists in product(rows, repeat=4):
            self.check(SQUARE, lists)


class ColoursBy(unittest.TestCase):
    def cases(self):
        for multigraph in MANY + [SQUARE] * 5 + helper.small_multigraphs()[::3]:
            for preferences in helper.preferences_for(multigraph, 2, seed=len(multigraph[2])):
                for lists in helper.lists_for(multigraph, 4, seed=multigraph[0]) + long_lists(multigraph, 2, 4):
                    yield multigraph, preferences, lists

    def test_step_by_step(self):
        answers = []
        for multigraph, preferences, lists in self.cases():
            told = colours_by(multigraph, preferences, lists)
            self.assertEqual(told, colours_told(multigraph, preferences, lists), (multigraph, preferences, lists))
            self.assertEqual(colours_by(lists=lists, preferences=preferences, multigraph=multigraph), told)
            answers.extend(told)
        self.assertGreater(answers.count(None), 100)
        self.assertGreater(len(answers), 2 * answers.count(None))

    def test_lists_longer_than_what_is_given_way_to(self):
        for multigraph, preferences, lists in self.cases():
            told = colours_by(multigraph, preferences, lists)
            for edge, row in enumerate(lists):
                ahead = [other for other in range(len(lists)) if helper.gives_way(preferences, edge, other)]
                if len(row) > len(ahead):
                    self.assertIn(told[edge], row)

    def test_without_edges(self):
        self.assertEqual(colours_by((2, 1, ()), (((), ()), ((),)), ()), ())


class Galvin(unittest.TestCase):
    def colourings(self, multigraph):
        degree, near = helper.degree_of(multigraph), helper.line_graph_of(multigraph)[1]
        told = edge_colouring(multigraph)
        found = [told, tuple(degree - 1 - colour for colour in told)]
        if len(multigraph[2]) < 5:
            found.extend(value for value in product(range(degree), repeat=len(told))
                         if all(value[one] != value[two] for one, two in near))
        return found

    def test_greater_colours_at_left_lesser_ones_at_right(self):
        for multigraph in MANY + helper.small_multigraphs() + [SQUARE]:
            for colours in self.colourings(multigraph):
                lefts, rights = told = galvin_preferences(multigraph, colours)
                self.assertIs(is_preferences(multigraph, told), True, (multigraph, colours))
                self.assertEqual(galvin_preferences(colours=colours, multigraph=multigraph), told)
                for side, turn in ((lefts, -1), (rights, 1)):
                    for row in side:
                        ranks = [turn * colours[edge] for edge in row]
                        self.assertEqual(ranks, sorted(ranks))

    def test_lists_of_as_many_colours_as_the_degree(self):
        for multigraph in MANY + helper.small_multigraphs():
            preferences = galvin_preferences(multigraph, edge_colouring(multigraph))
            for lists in long_lists(multigraph, 8, 7):
                told = colours_by(multigraph, preferences, lists)
                self.assertTrue(is_from_told(multigraph, lists, told), (multigraph, lists))
                self.assertIs(is_from_lists(multigraph, lists, told), True)
                self.assertIs(is_from_lists(multigraph, lists, list_colouring(multigraph, lists)), True)

    def test_what_is_no_colouring_is_refused(self):
        for colours in helper.bent((0, 1, 1, 0)) + [(0, 0, 1, 1), (1, 1, 0, 0), (0, 1, 2, 0), (0, 2, 2, 0), (0, 1, 0, 1)]:
            if not helper.is_among(colours, [(0, 1, 1, 0), (1, 0, 0, 1)]):
                with self.assertRaises(InvalidColours) as caught:
                    galvin_preferences(SQUARE, colours)
                self.assertIs(caught.exception.given, colours)


if __name__ == "__main__":
    unittest.main()
