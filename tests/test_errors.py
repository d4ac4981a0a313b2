"""The classes of takenout.errors."""

import unittest

from takenout import errors

OWN = {
    "NoOrder": ("stuck",),
    "BadBook": ("path",),
    "BadOrder": ("path",),
    "BadDeed": ("word",),
    "BadScript": ("number",),
    "NotEqual": (),
    "Crossed": ("one", "other"),
    "TooGreat": (),
    "NothingDone": (),
    "BadText": ("place",),
    "BadAct": ("word",),
}


class TestBases(unittest.TestCase):
    def test_roots(self):
        self.assertEqual(errors.OutError.__bases__, (ValueError,))
        self.assertEqual(errors.NameMissing.__bases__, (LookupError,))
        self.assertFalse(issubclass(errors.OutError, LookupError))
        self.assertFalse(issubclass(errors.NameMissing, ValueError))

    def test_subclasses(self):
        for name in OWN:
            self.assertEqual(getattr(errors, name).__bases__, (errors.OutError,), name)
        self.assertEqual(errors.UnknownName.__bases__, (errors.NameMissing,))

    def test_no_others(self):
        found = {
            name for name, value in vars(errors).items()
            if isinstance(value, type) and issubclass(value, Exception)
        }
        self.assertEqual(found, {"OutError", "NameMissing", "UnknownName", *OWN})


class TestAttributes(unittest.TestCase):
    def test_kept_as_they_are(self):
        for name, attributes in list(OWN.items()) + [("UnknownName", ("name",))]:
            if attributes in (("stuck",), ("path",)):
                continue
            values = [["any", {"kind": k}] for k in range(len(attributes))]
            error = getattr(errors, name)(*values)
            for attribute, value in zip(attributes, values):
                self.assertIs(getattr(error, attribute), value, name)

    def test_kept_as_tuples(self):
        for name, attribute in (("NoOrder", "stuck"), ("BadBook", "path"), ("BadOrder", "path")):
            for value in ([], (), [1, "a"], (1, 0), [[1], None]):
                passed = list(value) if isinstance(value, list) else value
                told = getattr(getattr(errors, name)(passed), attribute)
                self.assertIs(told.__class__, tuple)
                self.assertEqual(told, tuple(value))
                if isinstance(passed, list):
                    passed.append("later")
                    self.assertEqual(told, tuple(value))

    def test_values_of_any_kind(self):
        for value in (0, -1, True, None, "", (), [], {}, "word", 10 ** 39):
            self.assertIs(errors.BadDeed(value).word, value)
            self.assertIs(errors.BadAct(value).word, value)
            self.assertIs(errors.BadScript(value).number, value)
            self.assertIs(errors.BadText(value).place, value)
            self.assertIs(errors.UnknownName(value).name, value)
            crossed = errors.Crossed(value, "b")
            self.assertIs(crossed.one, value)
            self.assertEqual(crossed.other, "b")

    def test_raised_and_caught(self):
        with self.assertRaises(ValueError):
            raise errors.NotEqual()
        with self.assertRaises(errors.OutError):
            raise errors.TooGreat()
        with self.assertRaises(errors.OutError):
            raise errors.NothingDone()
        with self.assertRaises(LookupError):
            raise errors.UnknownName("x")


if __name__ == "__main__":
    unittest.main()
