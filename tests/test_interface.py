"""The names of the interface: each in its file, with its parameters, answering by position and by name."""

import inspect
import unittest
from importlib import import_module

from perfectgraphs.books import Book

SIGNATURES = {
    "graphs": {
        "is_graph": "value", "is_lot": "graph value", "are_adjacent": "graph one other", "complement": "graph",
        "induced": "graph lot",
    },
    "cliques": {
        "is_clique": "graph lot", "is_stable": "graph lot", "cliques": "graph", "stable_sets": "graph",
        "clique_number": "graph", "stable_number": "graph", "chromatic_number": "graph",
        "is_colouring": "graph value", "colouring": "graph",
    },
    "substitution": {
        "substituted": "graph vertex other", "union": "graph other", "join": "graph other",
        "replicated": "graph times", "multiplied": "graph times", "is_module": "graph value", "modules": "graph",
        "taken_apart": "graph module",
    },
    "isomorphisms": {
        "is_renaming": "graph value", "renamed": "graph renaming", "does_lead": "graph other value",
        "renaming_to": "graph other", "are_isomorphic": "graph other", "is_self_complementary": "graph",
        "automorphisms": "graph", "least_form": "graph",
    },
    "weights": {
        "is_cover": "graph weights value", "is_pair": "graph weights value", "heaviest_clique": "graph weights",
        "pair": "graph weights",
    },
    "fractions": {
        "fractional_number": "graph weights", "fractional_clique": "graph weights",
        "fractional_cover": "graph weights", "is_fractional_clique": "graph value",
        "is_fractional_cover": "graph weights value",
    },
    "polytopes": {
        "is_in": "graph shares", "is_corner": "graph shares", "corners": "graph", "fractional_corner": "graph",
    },
    "orientations": {
        "is_orientation": "graph value", "is_clique_acyclic": "graph orientation",
        "clique_against": "graph orientation", "is_kernel": "graph orientation lot", "kernels": "graph orientation",
        "against": "graph hole", "orientation_without_kernel": "graph",
    },
    "multigraphs": {
        "is_multigraph": "value", "greatest_degree": "multigraph", "line_graph": "multigraph",
        "is_edge_colouring": "multigraph value", "edge_colouring": "multigraph",
    },
    "matchings": {
        "is_preferences": "multigraph value", "orientation_of": "multigraph preferences",
        "is_stable_matching": "multigraph preferences matching", "stable_matchings": "multigraph preferences",
        "best_matching": "multigraph preferences", "better_of": "multigraph preferences one other",
    },
    "lists": {
        "is_lists": "multigraph value", "is_from_lists": "multigraph lists value", "list_colouring": "multigraph lists",
        "colours_by": "multigraph preferences lists", "galvin_preferences": "multigraph colours",
    },
    "changes": {
        "is_change": "value", "changed": "graph change", "graph_of": "log", "log_of": "graph",
        "is_clique_cutset": "graph value", "clique_cutset": "graph", "parts_of": "graph cutset",
    },
    "checker": {"accepts": "claim paper"},
    "certificates": {
        "certify_perfect": "graph", "certify_weight": "graph weights", "certify_fractional": "graph weights",
        "certify_colours": "graph many", "certify_corner": "graph shares", "certify_isomorphic": "graph other",
        "certify_acyclic": "graph orientation", "certify_kernel": "graph orientation",
        "certify_stable": "multigraph preferences matching", "certify_lists": "multigraph lists",
        "certify_cutset": "graph", "certify_led": "log",
    },
    "console": {"fresh_console": "", "said": "console line", "told_all": "console lines"},
    "texts": {"read_graph": "text", "print_graph": "graph", "graph6": "graph", "from_graph6": "text"},
    "holes": {
        "holes": "graph", "antiholes": "graph", "is_hole": "graph value", "is_antihole": "graph value",
        "odd_one": "graph", "is_berge": "graph",
    },
    "perfection": {
        "is_perfect": "graph", "lacking": "graph", "thin": "graph", "is_minimal": "graph", "minimal_lots": "graph",
    },
}

METHODS = {"do": "self change", "undo": "self", "trial": "self", "tried": "self action", "__len__": "self", "__init__": "self"}


class Interface(unittest.TestCase):
    def test_the_class_of_books_and_its_methods(self):
        self.assertEqual(Book.__module__, "perfectgraphs.books")
        for name, parameters in METHODS.items():
            told = inspect.signature(vars(Book)[name]).parameters.values()
            self.assertEqual([parameter.name for parameter in told], parameters.split())
            for parameter in told:
                self.assertIs(parameter.default, parameter.empty)

    def test_each_function_stands_in_its_file_with_its_parameters(self):
        for module_name, functions in SIGNATURES.items():
            module = import_module(f"perfectgraphs.{module_name}")
            for name, parameters in functions.items():
                function = getattr(module, name)
                self.assertEqual(function.__module__, module.__name__)
                told = inspect.signature(function).parameters.values()
                self.assertEqual([parameter.name for parameter in told], parameters.split())
                for parameter in told:
                    self.assertEqual(parameter.kind, parameter.POSITIONAL_OR_KEYWORD)
                    self.assertIs(parameter.default, parameter.empty)


if __name__ == "__main__":
    unittest.main()
