"""What several of the tests share."""

import copy
import unittest


def deep(depth, inner):
    """A tuple in a tuple, depth times."""
    for step in range(depth):
        inner = (inner,)
    return inner


# Things of every kind that is neither name, number, world nor deed.
ODD_THINGS = [
    None, True, False, "", " ", "A", "ninechars", "a b", "-", "\n", b"", b"a", [], {}, [[]], [()],
    ["a", 1, 1], ("a",), ("a", 1), ((),), (None,), ([],), ({},), {"a": 1}, {0: ("a", 1, 1)},
    (True,), ((True,),), deep(20, "a"), deep(20, []), [deep(19, None)], (("a", 1, 1), None),
]


class Case(unittest.TestCase):
    """A test case that asks for more than equality where truths and numbers may be mixed up."""

    def assertVery(self, told, wished):
        """The same value of the same kinds throughout: no list for a tuple, no True for 1."""
        self.assertEqual(told, wished)
        self.assertEqual(repr(told), repr(wished))

    def refused(self, error, call, *arguments):
        """The error of this very class with which the call is refused; what is handed in stays."""
        before = copy.deepcopy(arguments)
        with self.assertRaises(error) as caught:
            call(*arguments)
        self.assertEqual(type(caught.exception), error)
        self.assertVery(arguments, before)
        return caught.exception
