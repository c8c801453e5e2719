"""errors.py: each class right under the one that the interface names, and what it keeps."""

import unittest

from wherewhen import errors

OF_A_TEXT = [
    "NoFraction", "NoSpell", "NoSteps", "NoRing", "NoPlace", "NoDirection", "NoLine", "NoRow", "NoName", "NoQuestion",
    "NoShares", "NoCuts", "NoCut", "NoRegion", "NoTile", "NoBlock", "NoDeed", "NoText", "TooMany",
]
LACKS = [("NoMoment", "moment"), ("NoNumber", "number"), ("NoHouse", "house"), ("NoKept", "number")]


class ErrorsTest(unittest.TestCase):

    def test_where_errors(self):
        self.assertEqual(errors.WhereError.__bases__, (ValueError,))
        for name in OF_A_TEXT + ["NoTelling"]:
            kind = getattr(errors, name)
            self.assertEqual(kind.__name__, name)
            self.assertEqual(kind.__bases__, (errors.WhereError,))
            self.assertEqual(kind.__module__, "wherewhen.errors")

    def test_lack_errors(self):
        self.assertEqual(errors.LackError.__bases__, (LookupError,))
        for name, kept in LACKS:
            kind = getattr(errors, name)
            self.assertEqual(kind.__name__, name)
            self.assertEqual(kind.__bases__, (errors.LackError,))
            self.assertEqual(kind.__module__, "wherewhen.errors")

    def test_each_class_is_its_own(self):
        names = OF_A_TEXT + ["NoTelling", "WhereError", "LackError"] + [name for name, kept in LACKS]
        kinds = [getattr(errors, name) for name in names]
        for at, kind in enumerate(kinds):
            self.assertNotIn(kind, kinds[:at])

    def test_made_of_a_text(self):
        for name in OF_A_TEXT + ["WhereError", "LackError"]:
            self.assertEqual(str(getattr(errors, name)("so it is")), "so it is")

    def test_what_is_kept_is_the_very_thing(self):
        for name, kept in LACKS + [("NoTelling", "number")]:
            for thing in [0, 10 ** 5000, None, True, "a", [1, [2]], {"a": []}, ((1, 2), True)]:
                made = getattr(errors, name)(thing)
                self.assertIs(getattr(made, kept), thing)
                self.assertEqual(list(vars(made)), [kept])
                self.assertIsInstance(str(made) + repr(made), str)


if __name__ == "__main__":
    unittest.main()
