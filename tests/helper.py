"""What several tests share: wrong values, and how a refusal is told from an answer."""

import copy
import unittest

from sharepack.errors import BadShares, PackError

GREAT = 1000000000000


class Anything:
    """An object of no kind that the program knows."""


NO_LISTS = [(1, 1), (), "11", "", b"11", None, 0, 2, True, 1.5, {0: 1}, {}, {1, 2}, Anything(), range(2), list]

NO_WHOLE_NUMBERS = [True, False, "1", "", b"1", None, [1], [], (1,), {}, {1}, 1.0, 0.5, 1j, float("nan"),
                    float("inf"), Anything(), int]

WRONG_SHARES = NO_LISTS + [
    [],
    [1] * 41,
    [0],
    [1, 0, 1],
    [GREAT + 1],
    [1, GREAT + 1],
    [10 ** 4000],
    [-1],
    [2, -3],
    [-GREAT],
] + [[wrong] for wrong in NO_WHOLE_NUMBERS] + [[2, 3, wrong] for wrong in NO_WHOLE_NUMBERS]

TAKEN_SHARES = [[1], [GREAT], [1, GREAT], [1] * 40, [GREAT] * 40, list(range(1, 41))]


class PackCase(unittest.TestCase):
    """A test case that also sees whether a call changes what it is handed."""

    def told(self, function, *given):
        """The answer of a call that must leave what it is handed as it is."""
        before = copy.deepcopy(given)
        answer = function(*given)
        self.assertEqual(repr(given), repr(before))
        return answer

    def assert_refused(self, function, *given):
        """A call is refused with BadShares and leaves what it is handed as it is."""
        # repr and not ==: a 1 that became True would be equal.
        before = repr(given)
        with self.assertRaises(BadShares) as caught:
            function(*given)
        self.assertIs(caught.exception.__class__, BadShares)
        self.assertIsInstance(caught.exception, PackError)
        self.assertIsInstance(caught.exception, ValueError)
        self.assertEqual(repr(given), before)
