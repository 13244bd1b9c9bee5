"""[0.4]: the error classes and their fields."""

import unittest

from handsroom import errors

FIELDS = {
    "BadPart": ("rule",), "BadLine": ("line", "rule"), "NoSuch": ("name",), "Unlike": (), "BadPath": ("position",),
    "BadMove": ("position",), "BadPlace": ("place",), "BadRun": ("position",), "BadPoint": ("point",),
    "TooLarge": ("what",), "NoRow": ("row",), "NoTag": ("tag",), "NoNode": ("node",), "NoFirst": ("kind",),
    "WrongFirst": ("position",), "NoHand": ("hand",), "WrongMove": ("move", "rule"), "MustWait": ("lock", "hand"),
    "Refused": ("position",), "Unfinished": ("cycle", "short"), "NoRequest": ("request",), "NoLockOrder": ("cycle",),
    "BadStand": ("part",), "Unnested": ("routine", "nodes"), "Clash": ("cycle",), "NoState": ("state",),
    "NotFit": ("rule",),
}


class ErrorTest(unittest.TestCase):
    def test_base(self):
        self.assertEqual(errors.HandsError.__bases__, (ValueError,))
        self.assertIsInstance(errors.HandsError("why"), ValueError)

    def test_classes_and_fields(self):
        for name, fields in FIELDS.items():
            found = getattr(errors, name)
            self.assertEqual(found.__bases__, (errors.HandsError,), name)
            for worths in [tuple(range(len(fields))), tuple([None] * len(fields)), tuple([["x"]] * len(fields))]:
                error = found(*worths)
                self.assertEqual(tuple(getattr(error, field) for field in fields), worths, name)
                self.assertEqual(len(vars(error)), len(fields), name)

    def test_there_are_no_others(self):
        own = [name for name, value in vars(errors).items() if isinstance(value, type)]
        self.assertEqual(sorted(own), sorted(list(FIELDS) + ["HandsError"]))


if __name__ == "__main__":
    unittest.main()
