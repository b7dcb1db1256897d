import unittest

from lateeditions import errors
from support import any_values

KEPT = {
    "value": [
        "BadStandings", "BadDeeds", "BadSights", "BadStanding", "BadProgram", "BadValues", "NoDeed", "BadEye",
        "BadPlaces", "BadRows", "BadEyes", "BadDeed", "BadSight", "BadDesks", "BadChanges", "BadEdition",
        "BadPlace", "BadChange", "BadBook", "BadNumber", "BadLink", "BadMap", "BadVector", "BadNotes", "BadKeys",
        "BadKey", "BadPlan", "BadFence", "NotNow", "BadName", "BadLetter", "BadMark", "BadChain", "BadPlans",
        "BadSeat", "NotFailing",
    ],
    "position": ["BadRow", "BadInput", "BadLog", "BadEvent"],
    "spot": ["BadText"],
    "limit": ["TooMany"],
    "deed": ["TooLong"],
    "count": ["TooFar"],
    "words": ["InvalidCommand", "NoHouse"],
}
PAIRS = [(name, attribute) for attribute, names in KEPT.items() for name in names]


class ErrorsTest(unittest.TestCase):
    def test_all_are_there_and_no_others(self):
        found = [
            name for name, one in vars(errors).items()
            if isinstance(one, type) and issubclass(one, Exception) and one.__module__ == "lateeditions.errors"
        ]
        self.assertEqual(sorted(found), sorted(["DeskError"] + [name for name, _ in PAIRS]))

    def test_base(self):
        self.assertEqual(errors.DeskError.__bases__, (ValueError,))

    def test_each_is_a_direct_subclass_and_no_other(self):
        for name, _ in PAIRS:
            one = getattr(errors, name)
            self.assertEqual(one.__bases__, (errors.DeskError,), name)
            self.assertEqual(one.__module__, "lateeditions.errors")
            for other, _ in PAIRS:
                self.assertEqual(issubclass(one, getattr(errors, other)), name == other)

    def test_each_keeps_the_very_value(self):
        for name, attribute in PAIRS:
            for value in any_values():
                error = getattr(errors, name)(value)
                self.assertIs(getattr(error, attribute), value)
                self.assertEqual(list(vars(error)), [attribute])
                self.assertIsInstance(error, errors.DeskError)
                self.assertIsInstance(error, ValueError)

    def test_by_name(self):
        for name, attribute in PAIRS:
            value = ["told"]
            error = getattr(errors, name)(**{attribute: value})
            self.assertIs(getattr(error, attribute), value)

    def test_one_argument(self):
        for name, _ in PAIRS:
            for wrong in [(), (1, 2)]:
                with self.assertRaises(TypeError):
                    getattr(errors, name)(*wrong)

    def test_is_caught_by_its_class(self):
        for name, attribute in PAIRS:
            value = {"a": [1]}
            try:
                raise getattr(errors, name)(value)
            except errors.DeskError as error:
                self.assertIs(getattr(error, attribute), value)


if __name__ == "__main__":
    unittest.main()
