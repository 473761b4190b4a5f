"""[0.2] and the interface: the errors, and the copies that they keep."""

import unittest

from greenheld import errors
from tests.support import ODD_VALUES, deep, same

TOLD = (("BadText", "place"), ("BadTown", "word"), ("BadPlan", "word"), ("BadEvent", "number"), ("BadDisk", "place"))
PLAIN = ("NoFlow", "TooMany", "NothingDone")


class Errors(unittest.TestCase):
    def test_all_stand_directly_beneath_town_error(self):
        self.assertEqual(errors.TownError.__bases__, (ValueError,))
        for name in [name for name, _ in TOLD] + list(PLAIN):
            self.assertEqual(getattr(errors, name).__bases__, (errors.TownError,), name)

    def test_what_is_told_is_an_attribute_whatever_it_is(self):
        for name, word in TOLD:
            for value in ODD_VALUES:
                error = getattr(errors, name)(value)
                self.assertTrue(same(getattr(error, word), value), (name, value))

    def test_the_others_are_told_nothing(self):
        for name in PLAIN:
            with self.assertRaises(errors.TownError):
                raise getattr(errors, name)()

    def test_lists_and_dicts_within_are_copies_however_deep(self):
        for name, word in TOLD:
            for times in range(1, 15):
                inner = [1]
                value = deep(inner, times)
                error = getattr(errors, name)(value)
                inner.append(2)
                self.assertTrue(same(getattr(error, word), deep([1], times)), (name, times))
                self.assertTrue(same(value, deep([1, 2], times)))

    def test_each_kind_of_container_is_copied(self):
        rows, table = [[1], ({"k": [2]},)], {"a": [3], 4: {}}
        kept = errors.BadText((rows, table)).place
        self.assertEqual(kept, (rows, table))
        rows[0].append(9)
        rows[1][0]["k"].append(9)
        rows.append(9)
        table["a"].append(9)
        table[4]["new"] = 9
        table["b"] = 9
        self.assertEqual(kept, ([[1], ({"k": [2]},)], {"a": [3], 4: {}}))

    def test_what_is_changed_in_the_error_leaves_the_argument_alone(self):
        value = [[1], {"a": [2]}]
        kept = errors.BadPlan(value).word
        kept[0].append(5)
        kept[1]["a"].append(5)
        self.assertEqual(value, [[1], {"a": [2]}])


if __name__ == "__main__":
    unittest.main()
