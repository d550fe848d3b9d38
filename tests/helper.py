"""What several of the tests share."""

import copy
import unittest


def deep(depth, inner):
    """A tuple in a tuple, depth times."""
    for step in range(depth):
        inner = (inner,)
    return inner


# Things of every kind that is neither name, number, world nor deed.
ODD_THINGS = [
    None, True, False, "", " ", "A", "ninechars", "a b", "-", "\n", b"", b"a", [], {}, [[]], [()],
    ["a", 1, 1], ("a",), ("a", 1), ((),), (None,), ([],), ({},), {"a": 1}, {0: ("a", 1, 1)},
    (True,), ((True,),), deep(20, "a"), deep(20, []), [deep(19, None)], (("a", 1, 1), None),
]


class Case(unittest.TestCase):
    """A test case that asks for more than equality where truths and numbers may be mixed up."""

    def assertVery(self, told, wished):
        """The same value of the same kinds throughout: no list for a tuple, no True for 1."""
        self.assertEqual(told, wished)
        self.assertEqual(repr(told), repr(wished))

    def refused(self, error, call, *arguments):
        """The error of this very class with which the call is refused; what is handed in stays."""
        before = copy.deepcopy(arguments)
        with self.assertRaises(error) as caught:
            call(*arguments)
        self.assertEqual(type(caught.exception), error)
        self.assertVery(arguments, before)
        return caught.exception


def deeds_over(names):
    """Deeds of every kind over these names; numbers that no sum of others comes to."""
    deeds = []
    for one in names:
        deeds += [("put", one, 40, 3), ("take", one), ("move", one, 50), ("count", one, -5)]
        for other in names.replace(one, ""):
            deeds += [("name", one, other), ("split", one, other, 60, 17), ("join", one, other)]
    return deeds


DEEDS = deeds_over("abc")
NO_DEEDS = [None, (), "take a", ["take", "a"], ("take", "A"), ("take",), ("name", "a", "a"), ("put", "a", 1000, 1),
            ("count", "a", True), ("move", "a", -1), {}, 5, True]


def worlds_over(names, place=1, count=1000):
    """The worlds of all sets of these names; z, which no deed names, stands in each."""
    worlds = [(("z", 999, 777),)]
    for number, name in enumerate(reversed(sorted(names))):
        thing = (name, place + number, count * 10 ** number)
        worlds += [(thing,) + world for world in worlds]
    return worlds
