"""Packing and unpacking, block by block, by codes that both sides learn alike."""

from sharepack.errors import BadBit, BadCount, BadSign, Loose, Short
from sharepack.pairing import codes
from sharepack.shares import counted, learnt
from sharepack.whole import is_whole

LONGEST_TEXT = 2000


def check_text(signs, text):
    """Refuse a text with another sign than these."""
    for sign in text:
        if sign not in signs:
            raise BadSign("a text has only signs of its book")


def check_bits(bits):
    """Refuse bits with another sign than 0 and 1."""
    for bit in bits:
        if bit not in "01":
            raise BadBit("bits are the signs 0 and 1")


class Learner:
    """What is learnt so far from the signs that have come."""

    def __init__(self, book):
        self.shares = [1] * len(book.signs)
        self.words = codes(self.shares)
        self.waits = ""
        self._book = book

    def took(self, sign):
        """Take one sign of the book more."""
        # In the list and not in the text, where several signs side by side would be found, too.
        if sign not in list(self._book.signs):
            raise BadSign("a learner takes one sign of its book")
        self.waits += sign
        if len(self.waits) == self._book.size:
            self._learn()

    def _learn(self):
        counts = counted(self._book.signs, self.waits)
        # The lists are replaced, never changed, so that what held tells stays as it is.
        self.shares = learnt(self.shares, counts, self._book.cap)
        self.words = codes(self.shares)
        self.waits = ""

    def held(self):
        """Tell what is learnt so far, for going back to it."""
        return self.shares, self.words, self.waits

    def go_back(self, held):
        """Forget what has come since this was held."""
        self.shares, self.words, self.waits = held


class Packer:
    """Takes a text part by part and tells the bits of each part."""

    def __init__(self, book):
        self.learner = Learner(book)
        self._signs = book.signs

    def put(self, part):
        """Tell the bits of the next part of the text."""
        # The whole part first: a part that is refused must leave the learner as it was.
        check_text(self._signs, part)
        bits = []
        for sign in part:
            bits.append(self.learner.words[self._signs.index(sign)])
            self.learner.took(sign)
        return "".join(bits)


class Unpacker:
    """Takes bits part by part and tells the signs that come to be known."""

    def __init__(self, book, many):
        if not is_whole(many, 0, LONGEST_TEXT):
            raise BadCount("a count of signs is a whole number from 0 to 2000")
        self.learner = Learner(book)
        self.left = many
        self._signs = book.signs
        self._way = ""

    def put(self, bits):
        """Tell the signs that are known by the next part of the bits and were not told before."""
        check_bits(bits)
        # Whether bits are left over shows only when all signs are known and learnt: then there is a way back.
        held, left, way = self.learner.held(), self.left, self._way
        known, used = self._follow(bits)
        if used < len(bits):
            self.learner.go_back(held)
            self.left, self._way = left, way
            raise Loose("there are bits behind the last sign")
        return known

    def _follow(self, bits):
        """Tell the signs that come to be known, and how many of the bits were used."""
        known = ""
        used = 0
        while self.left > 0:
            # Ahead of any bit, because the code of one sign alone wants none.
            if self._way in self.learner.words:
                known += self._arrive()
            elif used < len(bits):
                self._way += bits[used]
                used += 1
            else:
                break
        return known, used

    def _arrive(self):
        """Tell the sign to which the way has led, and begin the next one's."""
        sign = self._signs[self.learner.words.index(self._way)]
        self.learner.took(sign)
        self.left -= 1
        self._way = ""
        return sign


def pack(book, text):
    """Tell the bits of a text."""
    return Packer(book).put(text)


def unpack(book, bits, many):
    """Tell the text of so many signs that was packed into these bits."""
    unpacker = Unpacker(book, many)
    text = unpacker.put(bits)
    if unpacker.left > 0:
        raise Short("there are fewer bits than all signs want")
    return text
