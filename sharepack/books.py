"""Books: what is agreed ahead of all packing."""

from sharepack.errors import BadBook
from sharepack.shares import GREATEST_CAP, MOST_SHARES
from sharepack.whole import is_whole

LONGEST_BLOCK = 99


def check_signs(signs):
    """Refuse what is no text of 1 to 40 signs from the blank to the tilde, none of them twice."""
    if not isinstance(signs, str) or not 1 <= len(signs) <= MOST_SHARES:
        raise BadBook("a book's signs are a text of 1 to 40 signs")
    for sign in signs:
        if not " " <= sign <= "~":
            raise BadBook("a book's signs are signs from the blank to the tilde")
        if signs.count(sign) > 1:
            raise BadBook("a book has no sign twice")


class Book:
    """The signs of texts, how long a block is, and the cap for the sum of the shares."""

    def __init__(self, signs, size, cap):
        check_signs(signs)
        if not is_whole(size, 1, LONGEST_BLOCK):
            raise BadBook("a book's size is a whole number from 1 to 99")
        if not is_whole(cap, len(signs), GREATEST_CAP):
            raise BadBook("a book's cap is a whole number from the count of its signs to 1000000")
        self.signs = signs
        self.size = size
        self.cap = cap
