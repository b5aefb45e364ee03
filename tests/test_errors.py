import inspect
import unittest

from surehedge import errors

PLAIN = """
BadSize BadName BadParent BadNumber BadGrowth BadRule
BadClause BadCondition BadAmount BadSign BadSide UnknownName TooDeep BadState
TooManyChoices TooManyNames TooManyPairs HasChoices MoreMoves FewerMoves
NotFreeTogether Negative NotOpen NotSettled NotEnough BadMove NotAChild BreaksRules
NothingToUndo NothingToRedo
""".split()
WITH_FIELDS = {
    "BadText": ("line", "column"),
    "NotFree": ("node",),
    "NoWeights": ("node",),
    "BadStep": ("place",),
    "BadEntry": ("place",),
}


class Errors(unittest.TestCase):
    def test_bases(self):
        self.assertEqual(errors.HedgeError.__bases__, (ValueError,))
        for name in PLAIN + list(WITH_FIELDS):
            with self.subTest(name=name):
                self.assertEqual(getattr(errors, name).__bases__, (errors.HedgeError,))

    def test_no_class_is_another_one(self):
        classes = [getattr(errors, name) for name in PLAIN + list(WITH_FIELDS)]
        for one in classes:
            for other in classes:
                self.assertEqual(issubclass(one, other), one.__name__ == other.__name__)

    def test_there_are_no_others(self):
        found = [name for name, value in vars(errors).items() if inspect.isclass(value)]
        self.assertEqual(sorted(found), sorted(PLAIN + list(WITH_FIELDS) + ["HedgeError"]))

    def test_made_with_no_argument(self):
        for name in PLAIN:
            with self.subTest(name=name):
                made = getattr(errors, name)
                with self.assertRaises(made) as caught:
                    raise made()
                self.assertIs(caught.exception.__class__, made)
                self.assertIsInstance(caught.exception, errors.HedgeError)
                self.assertIsInstance(caught.exception, ValueError)

    def test_fields(self):
        for name, fields in WITH_FIELDS.items():
            with self.subTest(name=name):
                values = [7 + place for place in range(len(fields))]
                error = getattr(errors, name)(*values)
                self.assertEqual([getattr(error, field) for field in fields], values)
                named = getattr(errors, name)(**dict(zip(fields, values)))
                self.assertEqual([getattr(named, field) for field in fields], values)
                with self.assertRaises(TypeError):
                    getattr(errors, name)()


if __name__ == "__main__":
    unittest.main()
