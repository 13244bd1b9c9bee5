"""[11]: deeds and their texts."""

import random
import unittest

from helpers import ODD_VALUES, THING, error_of
from handsroom.deeds import deed_text, guard_name, is_deed, named, read_deed

DEEDS = {
    "skip": ("skip",), "make x": ("make", "x"), "copy x y": ("copy", "x", "y"), "copy x x": ("copy", "x", "x"),
    "fetch x": ("fetch", "x"), "fetch x x": ("fetch", "x", "x"), "fetch x y z x": ("fetch", "x", "y", "z", "x"),
    "read x f": ("read", "x", "f"), "keep x x": ("keep", "x", "x"), "write x f": ("write", "x", "f"),
    "put x": ("put", "x"), "call b": ("call", "b", ()), "call b x y x": ("call", "b", ("x", "y", "x")),
    "call b as g": ("call", "b", (), "as", "g"), "call b x y as g": ("call", "b", ("x", "y"), "as", "g"),
    "take l": ("take", "l"), "take l as g": ("take", "l", "as", "g"), "take l as l": ("take", "l", "as", "l"),
}
NO_DEEDS = (
    ("skip", "x"), ("make",), ("make", "x", "y"), ("copy", "x"), ("copy", "x", "y", "z"), ("fetch",),
    ("fetch", "x", "y", "y"), ("fetch", "x", ("y",)), ("read", "x"), ("read", "x", "f", "g"), ("keep", "f"),
    ("write", "x", "f", 1), ("put",), ("put", "x", "y"), ("call",), ("call", "b"), ("call", "b", "x"),
    ("call", "b", ["x"]), ("call", "b", ("x", 1)), ("call", "b", ("x", "as", "g")), ("call", "b", (), "as"),
    ("call", "b", (), "as", "as"), ("call", "b", (), "g"), ("call", "b", (), "As", "g"), ("call", ("x",), "b"),
    ("call", "b", (), "as", "g", "as", "h"), ("take",), ("take", "l", "g"), ("take", "l", "as"), ("take", "as", "g"),
    ("take", "l", "as", "g", "h"), ("take", "l", "as", "take"), ("skip", "as", "g"), ("make", "x", "as", "g"),
    ("fetch", "x", "as", "g"), ("read", "x", "f", "as", "g"), ("give", "g"), ("drop", "g"), ("do",), ("Skip",),
    ["skip"], ["take", "l"], "skip", ("call", "b", (), ["as"], "g"), ((),), (("skip",),), (THING,), 5,
    ("take", "l", "as", "g", "as", "h"),
)


class DeedTest(unittest.TestCase):
    def test_deeds(self):
        for text, deed in DEEDS.items():
            self.assertIs(is_deed(deed), True, deed)
            self.assertEqual(deed_text(deed), text)
            self.assertEqual(read_deed(text), deed)

    def test_no_deeds(self):
        for value in NO_DEEDS + ODD_VALUES:
            self.assertIs(is_deed(value), False, value)

    def test_each_part_of_any_kind(self):
        for deed in DEEDS.values():
            for at in range(len(deed)):
                for value in ODD_VALUES + ("do", "as", 0):
                    if value != deed[at] and (deed[0] != "call" or at != 2 or value != ()):
                        self.assertIs(is_deed(deed[:at] + (value,) + deed[at + 1:]), False, (deed, at, value))
                if deed[0] == "call" and deed[2]:
                    for value in ODD_VALUES:
                        self.assertIs(is_deed(deed[:2] + (deed[2] + (value,),) + deed[3:]), False)

    def test_no_texts(self):
        for text in ["", " ", "skip ", " skip", "skip x", "make", "make  x", "copy x", "copy x y z", "fetch",
                     "fetch x y y", "read x", "read x f g", "put", "put x as g", "call", "call b as", "call as g",
                     "call b as as", "call b as g h", "call b as g as h", "take", "take l as", "take l g", "take as g",
                     "take l as g as h", "skip as g", "as", "as g", "do skip", "skip,skip", "make X", "call b (x)",
                     "take\nl", "drop g", "give g", "take l as take", "call b x  y", "call  x"]:
            self.assertEqual(error_of(read_deed, text), ("BadPart", "form"), text)

    def test_changed_texts(self):
        rng = random.Random(2)
        words = "skip make copy fetch read keep write put call take as x y f b l g X 1 do".split() + [""]
        good = 0
        for _ in range(20000):
            text = " ".join(rng.choice(words) for _ in range(rng.randint(1, 6)))
            try:
                deed = read_deed(text)
            except ValueError:
                continue
            good += 1
            self.assertTrue(is_deed(deed))
            self.assertEqual(deed_text(deed), text)
        self.assertGreater(good, 200)

    def test_guard_names(self):
        for deed in DEEDS.values():
            bears = len(deed) > 3 and deed[-2] == "as"
            self.assertEqual(guard_name(deed), deed[-1] if bears else "")
        self.assertEqual(named(("take", "l"), "g"), ("take", "l", "as", "g"))
        self.assertEqual(named(("take", "l", "as", "h"), "g"), ("take", "l", "as", "g"))
        self.assertEqual(named(("call", "b", ()), "g"), ("call", "b", (), "as", "g"))
        self.assertEqual(named(("call", "b", ("x",), "as", "h"), "g"), ("call", "b", ("x",), "as", "g"))


if __name__ == "__main__":
    unittest.main()
