"""What several tests share: wrong values, the document's words done slowly, and how a refusal is told."""

import copy
import random
import unittest

from sharepack.books import Book
from sharepack.errors import BadShares, PackError

GREAT = 1000000000000


class Anything:
    """An object of no kind that the program knows."""


NO_LISTS = [(1, 1), (), "11", "", b"11", None, 0, 2, True, 1.5, {0: 1}, {}, {1, 2}, Anything(), range(2), list]

NO_WHOLE_NUMBERS = [True, False, "1", "", b"1", None, [1], [], (1,), {}, {1}, 1.0, 0.5, 1j, float("nan"),
                    float("inf"), Anything(), int]

WRONG_SHARES = NO_LISTS + [
    [],
    [1] * 41,
    [0],
    [1, 0, 1],
    [GREAT + 1],
    [1, GREAT + 1],
    [10 ** 4000],
    [-1],
    [2, -3],
    [-GREAT],
] + [[wrong] for wrong in NO_WHOLE_NUMBERS] + [[2, 3, wrong] for wrong in NO_WHOLE_NUMBERS]

TAKEN_SHARES = [[1], [GREAT], [1, GREAT], [1] * 40, [GREAT] * 40, list(range(1, 41))]

WRONG_COUNTS_OF_SIGNS = [-1, 2001, -2000, 9999, GREAT, 10 ** 4000] + NO_WHOLE_NUMBERS

# From the blank to the tilde, the signs that mean something elsewhere among them.
FORTY = " !\"#$&'()*+,-./0123:;<=>?@AZ[\\]^_`az{|}~"

# Book by book: one sign alone, two, three, forty; caps that halve always, often and never.
SETTINGS = [("a", 1, 1), ("a", 3, 1000000), ("ab", 1, 2), ("ab", 1, 9), ("ab", 4, 1000000), ("ba ", 3, 5),
            ("~ !", 1, 1000), ("abc", 99, 40), (FORTY, 1, 40), (FORTY, 5, 60), (FORTY, 99, 1000000)]


def text_of(signs, many, seed=1):
    """A text of so many of the signs in which the first ones stand more often than the last ones."""
    chance = random.Random(seed)
    return "".join(signs[int(chance.random() ** 2 * len(signs))] for _ in range(many))


def pairs_by_words(shares):
    """The pairs, made as the document tells it, by looking through all nodes each time."""
    weights = dict(enumerate(shares))
    made = []
    while len(weights) > 1:
        first, other = sorted(weights, key=lambda number: (weights[number], number))[:2]
        weights[len(shares) + len(made)] = weights.pop(first) + weights.pop(other)
        made.append((first, other))
    return made


def ways_by_words(shares):
    """The way from the top to each sign's node, gone backwards from the node."""
    made = pairs_by_words(shares)
    ways = []
    for node in range(len(shares)):
        way = ""
        for at, (first, other) in enumerate(made):
            if node in (first, other):
                way = ("0" if node == first else "1") + way
                node = len(shares) + at
        ways.append(way)
    return ways


def learnt_by_words(shares, block, book):
    """The shares behind a full block, sign by sign."""
    shares = dict(zip(book.signs, shares))
    for sign in block:
        shares[sign] += 1
    while sum(shares.values()) > book.cap:
        for sign, share in shares.items():
            shares[sign] = share - share // 2
    return [shares[sign] for sign in book.signs]


def blocks_by_words(book, text):
    """Each block of a text: the shares ahead of it, its signs and its codes."""
    shares = [1] * len(book.signs)
    blocks = []
    while text:
        block, text = text[:book.size], text[book.size:]
        ways = dict(zip(book.signs, ways_by_words(shares)))
        blocks.append((shares, block, [ways[sign] for sign in block]))
        if len(block) == book.size:
            shares = learnt_by_words(shares, block, book)
    return blocks


def packed_by_words(book, text):
    """The bits of a text, by its blocks."""
    return "".join("".join(words) for _, _, words in blocks_by_words(book, text))


def seen(value):
    """All that a value holds, as a text; of an object of the program all that is set on it."""
    if value.__class__.__module__.startswith("sharepack."):
        return (value.__class__.__name__, [(name, seen(held)) for name, held in sorted(vars(value).items())])
    # repr and not ==: a 1 that became True would be equal.
    return repr(value)


class PackCase(unittest.TestCase):
    """A test case that also sees whether a call changes what it is handed."""

    def told(self, function, *given):
        """The answer of a call that must leave what it is handed as it is."""
        before = copy.deepcopy(given)
        answer = function(*given)
        self.assertEqual([seen(one) for one in given], [seen(one) for one in before])
        return answer

    def assert_refused_with(self, kind, function, *given):
        """A call is refused with this very class and leaves what it is handed as it is."""
        before = [seen(one) for one in given]
        with self.assertRaises(kind) as caught:
            function(*given)
        self.assertIs(caught.exception.__class__, kind)
        self.assertIsInstance(caught.exception, PackError)
        self.assertIsInstance(caught.exception, ValueError)
        self.assertEqual([seen(one) for one in given], before)

    def assert_refused(self, function, *given):
        """A call is refused with BadShares and leaves what it is handed as it is."""
        self.assert_refused_with(BadShares, function, *given)

    def assert_refused_unchanged(self, kind, held, function, *given):
        """A call of an object's method is refused, and the object stays as it was, in all that it holds."""
        before = seen(held)
        self.assert_refused_with(kind, function, *given)
        self.assertEqual(seen(held), before)

    def assert_learner(self, learner, shares, words, waits):
        """A learner holds just this, in values of the kinds that the interface lists."""
        self.assertEqual((learner.shares, learner.words, learner.waits), (shares, words, waits))
        self.assertEqual((type(learner.shares), type(learner.words), type(learner.waits)), (list, list, str))

    def assert_learner_by_words(self, learner, book, text):
        """A learner is where the document's words lead with this text."""
        full = len(text) - len(text) % book.size
        shares = [1] * len(book.signs)
        for at in range(0, full, book.size):
            shares = learnt_by_words(shares, text[at:at + book.size], book)
        self.assert_learner(learner, shares, ways_by_words(shares), text[full:])


def books():
    """A new book of each setting."""
    return [Book(*setting) for setting in SETTINGS]
