"""Texts of deeds [8]."""

import unittest

from struckdeeds.deeds import is_deed
from struckdeeds.deedtexts import read_deed, show_deed
from struckdeeds.errors import NoText
from tests.helper import DEEDS, ODD_THINGS, Case

PAIRS = [
    (("put", "x", 0, 0), "put x 0 0"),
    (("put", "abcdefgh", 999, -10 ** 12), "put abcdefgh 999 -1000000000000"),
    (("take", "x"), "take x"),
    (("take", "take"), "take take"),
    (("move", "x", 10), "move x 10"),
    (("count", "x", -1), "count x -1"),
    (("count", "x", 10 ** 12), "count x 1000000000000"),
    (("count", "x", 10 ** 18), "count x 1" + "0" * 18),
    (("name", "x", "y"), "name x y"),
    (("name", "name", "put"), "name name put"),
    (("split", "x", "y", 100, 20), "split x y 100 20"),
    (("split", "y", "x", 0, -20), "split y x 0 -20"),
    (("join", "x", "y"), "join x y"),
]


class BothWaysTest(Case):

    def test_written_and_read(self):
        for deed, text in PAIRS:
            with self.subTest(text):
                self.assertVery(show_deed(deed), text)
                self.assertVery(read_deed(text), deed)

    def test_read_from_what_was_written(self):
        for deed in DEEDS:
            self.assertVery(read_deed(show_deed(deed)), deed)

    def test_very_long_numbers(self):
        for length in (3900, 4290, 4500):
            text = "count x -" + "7" * length
            self.assertIs(is_deed(read_deed(text)), True)
            self.assertEqual(show_deed(read_deed(text)), text)


class RefusedTest(Case):

    def refused_text(self, text):
        with self.subTest(text=text):
            self.assertIsNone(self.refused(NoText, read_deed, text).part)

    def test_no_text(self):
        for thing in ODD_THINGS + [0, 5, ("take", "x"), ["take x"], b"take x", {"take": "x"}]:
            self.refused_text(thing)

    def test_blanks(self):
        for deed, text in PAIRS:
            for place, sign in enumerate(text):
                if sign == " ":
                    self.refused_text(text[:place] + " " + text[place:])
                    self.refused_text(text[:place] + text[place + 1:])
                    self.refused_text(text[:place] + "\n" + text[place + 1:])
                    self.refused_text(text[:place] + "\t" + text[place + 1:])
                    self.refused_text(text[:place] + ", " + text[place + 1:])
            for wrong in (" " + text, text + " ", text + "\n", "\n" + text, text + "\t"):
                self.refused_text(wrong)

    def test_a_word_too_many_or_too_few(self):
        for deed, text in PAIRS:
            words = text.split(" ")
            for place in range(len(words)):
                self.refused_text(" ".join(words[:place] + words[place + 1:]))
            for word in ("z", "5", "-"):
                self.refused_text(text + " " + word)
                self.refused_text(word + " " + text)
        for text in ("", " ", "  ", "-", "put", "take", "x", "5"):
            self.refused_text(text)

    def test_numbers(self):
        for number in ("00", "01", "-0", "-01", "+1", "+0", "--1", "-", "1.0", "1_0", "1e2", "0x1", "x", "", "\u0661",
                       "\u00b2", "\uff11", "1-", "True", "None"):
            for text in (f"put x {number} 1", f"put x 1 {number}", f"move x {number}", f"count x {number}",
                         f"split x y {number} 1", f"split x y 1 {number}"):
                self.refused_text(text)
        for place in ("-1", "1000", "1000000000000"):
            for text in (f"put x {place} 1", f"move x {place}", f"split x y {place} 1"):
                self.refused_text(text)

    def test_names(self):
        for name in ("", "X", "abcdefghi", "x1", "1", "-1", "x_y", "\u00e9", "x@", "x\n"):
            for text in (f"put {name} 1 1", f"take {name}", f"move {name} 1", f"count {name} 1", f"name {name} y",
                         f"name y {name}", f"split {name} y 1 1", f"split y {name} 1 1", f"join {name} y",
                         f"join y {name}"):
                self.refused_text(text)
        for text in ("name x x", "join x x", "split x x 1 1"):
            self.refused_text(text)

    def test_first_words(self):
        for deed, text in PAIRS:
            for word in ("Put", "PUT", "puts", "do", "x", "", "(put"):
                self.refused_text(word + text[len(deed[0]):])


if __name__ == "__main__":
    unittest.main()
