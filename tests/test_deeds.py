"""What is a deed, and what its names are to it [6]."""

import unittest

from struckdeeds.deeds import ended_by, is_deed, made_by, must_stand
from tests.helper import ODD_THINGS, Case

# A deed, what it makes, what it ends, what must stand for it.
KINDS = [
    (("put", "x", 5, -7), "x", None, ()),
    (("take", "x"), None, "x", ("x",)),
    (("move", "x", 5), None, None, ("x",)),
    (("count", "x", -7), None, None, ("x",)),
    (("name", "x", "y"), "y", "x", ("x",)),
    (("split", "x", "y", 5, -7), "y", None, ("x",)),
    (("join", "x", "y"), None, "y", ("x", "y")),
]
WORDS = ["put", "take", "move", "count", "name", "split", "join"]


def with_names(deed, one, other):
    """The deed with other names for x and y."""
    return deed[:1] + tuple({"x": one, "y": other}.get(part, part) for part in deed[1:])


class IsDeedTest(Case):

    def test_each_kind(self):
        for deed, made, ended, stand in KINDS:
            for one, other in (("x", "y"), ("y", "x"), ("abcdefgh", "a"), ("put", "take"), ("name", "join"), ("a", "aa")):
                with self.subTest(deed=deed):
                    self.assertIs(is_deed(with_names(deed, one, other)), True)

    def test_edges_of_numbers(self):
        for place in (0, 999):
            for number in (0, 1, -1, 10 ** 12, -10 ** 12, 10 ** 40):
                self.assertIs(is_deed(("put", "x", place, number)), True)
                self.assertIs(is_deed(("split", "x", "y", place, number)), True)
                self.assertIs(is_deed(("move", "x", place)), True)
                self.assertIs(is_deed(("count", "x", number)), True)

    def test_things_of_any_other_kind(self):
        for thing in ODD_THINGS + [0, 7, (), "put", "take x", ("take x",), ("put",), ("take",), WORDS, tuple(WORDS),
                                   ([], "x"), ({}, "x"), ((), "x"), (None, "x"), (0, "x"), (True, "x"), (b"take", "x"),
                                   (("take",), "x"), (("take", "x"),), ("take", ("x",)), ("take", ["x"]),
                                   {"take": "x"}, {0: "take", 1: "x"}]:
            with self.subTest(thing=thing):
                self.assertIs(is_deed(thing), False)

    def test_other_words(self):
        for deed, made, ended, stand in KINDS:
            for word in ("", "Put", "PUT", "puts", "pu", " put", "put ", "x", "do", "rename", deed[0] + "\n"):
                with self.subTest(deed=deed, word=word):
                    self.assertIs(is_deed((word,) + deed[1:]), False)

    def test_a_part_more_or_fewer(self):
        for deed, made, ended, stand in KINDS:
            for part in ("x", "z", 5, None, (), []):
                for place in range(1, len(deed) + 1):
                    longer = deed[:place] + (part,) + deed[place:]
                    self.assertIs(is_deed(longer), False, longer)
            for place in range(len(deed)):
                self.assertIs(is_deed(deed[:place] + deed[place + 1:]), False)

    def test_another_kind_of_container(self):
        for deed, made, ended, stand in KINDS:
            for thing in (list(deed), (deed,), [deed], dict(enumerate(deed)), " ".join(map(str, deed)), repr(deed)):
                self.assertIs(is_deed(thing), False)

    def test_parts_exchanged(self):
        for thing in (("put", 5, "x", 1), ("put", "x", "y", 5), ("put", 5, 1, "x"), ("put", "x", -7, 5),
                      ("move", 5, "x"), ("count", 5, "x"), ("move", "x", "y"), ("count", "x", "y"), ("name", "x", 5),
                      ("join", 5, "x"), ("split", "x", 5, "y", 1), ("split", 5, "x", "y", 1), ("split", "x", "y", -7, 5),
                      ("split", 5, 1, "x", "y"), ("x", "take")):
            with self.subTest(thing=thing):
                self.assertIs(is_deed(thing), False)

    def test_two_unlike_names(self):
        for name in ("x", "put", "abcdefgh"):
            for thing in (("name", name, name), ("split", name, name, 5, 1), ("join", name, name)):
                self.assertIs(is_deed(thing), False)

    def test_one_wrong_part(self):
        names = ["", "X", "abcdefghi", "x1", " x", "x ", 5, True, None, ("x",), ["x"], {"x": 1}, b"x", "\u00e9"]
        numbers = [True, False, None, "5", "", (5,), [5], {5: 5}, b"5"]
        for deed, made, ended, stand in KINDS:
            for place, part in enumerate(deed):
                if place == 0:
                    wrong = [None, 5, ("put",), ["put"], {}]
                elif isinstance(part, str):
                    wrong = names
                elif part == 5:
                    wrong = numbers + [-1, 1000, 10 ** 12, -10 ** 12]
                else:
                    wrong = numbers
                for thing in wrong:
                    bad = deed[:place] + (thing,) + deed[place + 1:]
                    with self.subTest(bad=bad):
                        self.assertIs(is_deed(bad), False)


class NamesOfDeedsTest(Case):

    def test_each_kind(self):
        for one, other in (("x", "y"), ("y", "x"), ("put", "take"), ("take", "name"), ("join", "split"), ("move", "put")):
            exchange = {"x": one, "y": other, None: None}
            for deed, made, ended, stand in KINDS:
                deed = with_names(deed, one, other)
                with self.subTest(deed=deed):
                    self.assertVery(made_by(deed), exchange[made])
                    self.assertVery(ended_by(deed), exchange[ended])
                    self.assertVery(must_stand(deed), tuple(exchange[name] for name in stand))


if __name__ == "__main__":
    unittest.main()
