"""The refusals of the program, one class for each kind."""


class PackError(ValueError):
    """Any refusal."""


class BadBook(PackError):
    """A book's signs, size or cap are not what a book takes."""


class BadShares(PackError):
    """Shares, or the counts or the cap beside them, are not what they must be."""


class BadSign(PackError):
    """A text has a sign that the book has not."""


class BadCount(PackError):
    """A count of signs is not what it must be."""


class BadBit(PackError):
    """Bits have another sign than 0 and 1."""


class Loose(PackError):
    """There are bits behind the last sign."""


class Short(PackError):
    """There are fewer bits than all signs want."""


class BadLine(PackError):
    """A line has no count and blank ahead of its bits."""
