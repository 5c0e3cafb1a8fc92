import unittest

from helper import ANY_VALUES, nested
from perfectgraphs import errors

WITH_GIVEN = (
    "InvalidGraph InvalidLot InvalidVertex InvalidWeights InvalidShares InvalidTimes InvalidRenaming InvalidNumber "
    "InvalidOrientation InvalidHole InvalidMultigraph InvalidColours InvalidPreferences InvalidMatching InvalidLists "
    "InvalidChange InvalidCutset Unfit"
).split()
WITH_INDEX = ["InvalidLine", "InvalidSign", "InvalidLog"]
WITHOUT = ["TooMany", "NothingToUndo", "NoPair"]


class MadeAndKept(unittest.TestCase):
    def check_keeps(self, names, attribute):
        kept = ANY_VALUES + [[1, [2]], nested(200), ({"a": [()]},), {"given": None}]
        for name in names:
            made_of = getattr(errors, name)
            for value in kept:
                self.assertIs(getattr(made_of(value), attribute), value)
                by_name = made_of(**{attribute: value})
                self.assertIs(getattr(by_name, attribute), value)
                self.assertEqual(list(vars(by_name)), [attribute])
            for wrong in ((), (1, 2)):
                self.assertRaises(TypeError, made_of, *wrong)
            self.assertRaises(TypeError, made_of, other=1)

    def test_given(self):
        self.check_keeps(WITH_GIVEN, "given")

    def test_index(self):
        self.check_keeps(WITH_INDEX, "index")

    def test_without_attributes(self):
        for name in WITHOUT + ["GraphError"]:
            self.assertEqual(vars(getattr(errors, name)()), {})

    def test_what_is_kept_is_not_copied(self):
        value = [1]
        error = errors.InvalidLot(value)
        value.append(2)
        self.assertEqual(error.given, [1, 2])


class Bases(unittest.TestCase):
    def test_graph_error_stands_under_value_error_alone(self):
        self.assertEqual(errors.GraphError.__bases__, (ValueError,))

    def test_all_others_stand_under_graph_error_alone(self):
        for name in WITH_GIVEN + WITH_INDEX + WITHOUT:
            self.assertEqual(getattr(errors, name).__mro__[1:], errors.GraphError.__mro__, name)

    def test_each_class_is_caught_by_its_own_name(self):
        with self.assertRaises(errors.GraphError):
            raise errors.TooMany()
        with self.assertRaises(ValueError):
            raise errors.InvalidGraph(1)
        self.assertFalse(issubclass(errors.InvalidLot, errors.InvalidGraph))

    def test_these_are_all(self):
        names = [name for name, value in vars(errors).items() if isinstance(value, type)]
        self.assertEqual(sorted(names), sorted(WITH_GIVEN + WITH_INDEX + WITHOUT + ["GraphError"]))


if __name__ == "__main__":
    unittest.main()
