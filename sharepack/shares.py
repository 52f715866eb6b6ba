"""Shares: how they are checked, and how they are learnt from a block."""

from sharepack.errors import BadShares
from sharepack.whole import is_whole

MOST_SHARES = 40
GREATEST_SHARE = 1000000000000
GREATEST_CAP = 1000000


def check_shares(shares):
    """Refuse what is no list of 1 to 40 whole numbers from 1 to 1000000000000."""
    if not isinstance(shares, list) or not 1 <= len(shares) <= MOST_SHARES:
        raise BadShares("shares are a list of 1 to 40 whole numbers")
    for share in shares:
        if not is_whole(share, 1, GREATEST_SHARE):
            raise BadShares("a share is a whole number from 1 to 1000000000000")


def check_counts(counts, many):
    """Refuse what is no list of so many whole numbers from 0 to 1000000000000."""
    if not isinstance(counts, list) or len(counts) != many:
        raise BadShares("counts are a list of as many whole numbers as there are shares")
    for count in counts:
        if not is_whole(count, 0, GREATEST_SHARE):
            raise BadShares("a count is a whole number from 0 to 1000000000000")


def check_cap(cap, many):
    """Refuse what is no whole number from the count of the shares to 1000000."""
    # No share falls below 1, so halving towards a cap below the count of the shares would never end.
    if not is_whole(cap, many, GREATEST_CAP):
        raise BadShares("a cap is a whole number from the count of the shares to 1000000")


def counted(signs, block):
    """Tell how often each of the signs stands in the block."""
    return [block.count(sign) for sign in signs]


def learnt(shares, counts, cap):
    """Tell the shares behind a block in which each sign stands as often as its count says."""
    check_shares(shares)
    check_counts(counts, len(shares))
    check_cap(cap, len(shares))
    grown = [share + count for share, count in zip(shares, counts)]
    while sum(grown) > cap:
        grown = [share - share // 2 for share in grown]
    return grown
