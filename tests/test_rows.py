"""[12]: rows and their texts."""

import unittest

from helpers import ODD_VALUES, TEXTS, error_of
from test_deeds import DEEDS, NO_DEEDS
from handsroom.houses import House
from handsroom.rows import Row

FORM = ("BadPart", "form")


class RowTest(unittest.TestCase):
    def test_deed_rows(self):
        for word in ("do", "with"):
            for text, deed in DEEDS.items():
                row = Row(word, deed)
                self.assertEqual((row.word, row.deeds, row.guard), (word, (deed,), ""))
                self.assertEqual(row.text(), word + " " + text)
                self.assertEqual(Row.read(row.text()), row)
            row = Row(word, *DEEDS.values())
            self.assertEqual(row.text(), word + " " + ", ".join(DEEDS))
            self.assertEqual(row.guards, ("g", "g", "g", "l"))
            self.assertEqual(Row.read(row.text()).deeds, tuple(DEEDS.values()))
            self.assertEqual(error_of(Row, word), FORM)
            self.assertEqual(error_of(Row, word, ("skip",), guard="g"), FORM)
            for value in ODD_VALUES + NO_DEEDS:
                self.assertEqual(error_of(Row, word, ("skip",), value), FORM)
                if value != "":
                    self.assertEqual(error_of(Row, word, ("skip",), guard=value), FORM, value)

    def test_guard_rows(self):
        for word in ("drop", "give"):
            row = Row(word, guard="g")
            self.assertEqual((row.word, row.deeds, row.guard, row.guards), (word, (), "g", ()))
            self.assertEqual(row.text(), word + " g")
            self.assertEqual(Row.read(word + " g"), row)
            self.assertEqual(error_of(Row, word, ("skip",), guard="g"), FORM)
            self.assertEqual(error_of(Row, word), FORM)
            for value in ODD_VALUES + ("as", "g h"):
                self.assertEqual(error_of(Row, word, guard=value), FORM, value)

    def test_bare_rows(self):
        for word in ("block", "either", "or", "repeat", "close"):
            row = Row(word)
            self.assertEqual((row.word, row.deeds, row.guard, row.guards, row.text()), (word, (), "", (), word))
            self.assertEqual(Row.read(word), row)
            self.assertEqual(error_of(Row, word, ("skip",)), FORM)
            self.assertEqual(error_of(Row, word, guard="g"), FORM)
            self.assertEqual(error_of(Row, word, guard=None), FORM)

    def test_words(self):
        opening = [word for word in "do with".split() if Row(word, ("skip",)).opens is True]
        opening += [word for word in "block either or repeat close".split() if Row(word).opens is True]
        self.assertEqual(opening, ["with", "block", "either", "repeat"])
        self.assertIs(Row("do", ("skip",)).opens, False)
        self.assertIs(Row("drop", guard="g").opens, False)
        for word in ODD_VALUES + ("done", "Do", "routine", "skip", "block "):
            self.assertEqual(error_of(Row, word), FORM)
            self.assertEqual(error_of(Row, word, ("skip",)), FORM)
            self.assertEqual(error_of(Row, word, guard="g"), FORM)

    def test_equality(self):
        row = Row("do", ("skip",), ("take", "l"))
        self.assertTrue(row == Row("do", ("skip",), ("take", "l")))
        for other in [Row("with", ("skip",), ("take", "l")), Row("do", ("skip",)), Row("drop", guard="g"), "do skip",
                      Row("do", ("take", "l"), ("skip",)), ("skip",), None]:
            self.assertFalse(row == other)
        self.assertFalse(Row("drop", guard="g") == Row("give", guard="g"))
        self.assertFalse(Row("drop", guard="g") == Row("drop", guard="h"))

    def test_no_texts(self):
        for text in ["", " ", "do", "do ", "with", "with ", "drop", "drop ", "give", "give ", "drop g h", "drop as",
                     "block ", "block x", "or skip", "close close", "do skip,make x", "do skip ,make x", "do skip, ",
                     "do skip,", "do , skip", "do  skip", "do skip,  make x", " do skip", "do skip ", "done", "skip",
                     "do do skip", "drop G", "with\ntake l", "do skip\n", "either or", "do skip, do skip", "give g,"]:
            self.assertEqual(error_of(Row.read, text), FORM, text)

    def test_text_and_back(self):
        for text in TEXTS:
            for routine in House.read(text).routines:
                for row in routine.rows:
                    again = Row.read(row.text())
                    self.assertTrue(again == row and again.text() == row.text())
                    built = Row(row.word, *row.deeds, guard=row.guard)
                    self.assertEqual((built.guards, built.opens), (row.guards, row.opens))


if __name__ == "__main__":
    unittest.main()
