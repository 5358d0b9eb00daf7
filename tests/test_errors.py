import inspect
import unittest

from healhalves import errors
from healhalves.errors import HealError

NAMES = (
    "NoSize NoCore NoPlace NoNet NoLoss NoNumber NoRoad NoTurn NoCode NoData NoCame TooMany NoSeals NoPlan NoSign "
    "Clash NoDeed NoText NoRow NoName"
).split()


class ErrorsTest(unittest.TestCase):
    def test_all_twenty_are_there_and_no_others(self):
        found = [name for name, one in inspect.getmembers(errors, inspect.isclass) if one is not HealError]
        self.assertEqual(sorted(found), sorted(NAMES))
        self.assertEqual(len(NAMES), 20)

    def test_heal_error_stands_under_value_error(self):
        self.assertEqual(HealError.__bases__, (ValueError,))

    def test_each_is_a_heal_error_and_a_value_error(self):
        for name in NAMES:
            self.assertTrue(issubclass(getattr(errors, name), HealError), name)
            self.assertTrue(issubclass(getattr(errors, name), ValueError), name)

    def test_none_is_under_another_one(self):
        for one in NAMES:
            for other in NAMES:
                if one != other:
                    self.assertFalse(issubclass(getattr(errors, one), getattr(errors, other)), (one, other))

    def test_each_is_made_of_a_text(self):
        for name in NAMES + ["HealError"]:
            self.assertEqual(str(getattr(errors, name)("some words")), "some words")


if __name__ == "__main__":
    unittest.main()
