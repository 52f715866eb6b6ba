"""Telling: a report of the blocks of a text, and a text as a line."""

from sharepack.errors import BadLine
from sharepack.packing import Packer, pack, unpack

MOST_FIGURES = 4


def report(book, text):
    """Tell for each block of a text the shares ahead of it and its bits."""
    packer = Packer(book)
    rows = []
    for at in range(0, len(text), book.size):
        # A list of its own, so that who asked may change it whatever the learner does with its one.
        shares = list(packer.learner.shares)
        rows.append((shares, packer.put(text[at:at + book.size])))
    return rows


def written(book, text):
    """Tell the line of a text: the count of its signs, a blank, its bits."""
    return f"{len(text)} {pack(book, text)}"


def read(book, line):
    """Tell the text of a line."""
    count, blank, bits = line.partition(" ")
    if blank == "" or not is_count(count):
        raise BadLine("a line begins with a count of one to four figures and a blank")
    return unpack(book, bits, int(count))


def is_count(count):
    """Tell whether a text is a count as a line has it."""
    # Only isascii keeps out the figures of other scripts, which isdigit takes.
    if not count.isascii() or not count.isdigit() or len(count) > MOST_FIGURES:
        return False
    return count == "0" or not count.startswith("0")
