"""The error classes [interface: errors.py]."""

import unittest

from quickways import errors

FIELDS = {
    "BadKind": ("kind",),
    "BadProgram": ("reason", "where"),
    "NoRow": ("where",),
    "BadText": ("line",),
    "TooLarge": ("most",),
    "BadDeed": ("at",),
    "BadWish": ("state",),
    "BadRule": ("rule",),
    "BadPart": ("part",),
    "BadWay": ("way",),
    "NoStep": ("word",),
    "NotLet": ("rule", "where"),
    "NotParted": ("index",),
    "BadEdit": ("where",),
    "BadOrder": ("line",),
    "NoEntry": ("name",),
}


class TestErrors(unittest.TestCase):
    def test_base(self):
        self.assertEqual(errors.QuickError.__bases__, (ValueError,))

    def test_each_is_a_direct_subclass(self):
        for name in FIELDS:
            with self.subTest(name):
                self.assertEqual(getattr(errors, name).__bases__, (errors.QuickError,))

    def test_fields_by_position_and_by_name(self):
        for name, fields in FIELDS.items():
            for values in (("one", "two"), (3, "four")):
                with self.subTest(name, values=values):
                    told = dict(zip(fields, values))
                    made = getattr(errors, name)(*told.values())
                    self.assertEqual(vars(made), told)
                    self.assertEqual(vars(getattr(errors, name)(**told)), told)
                    self.assertIsInstance(str(made), str)


if __name__ == "__main__":
    unittest.main()
