"""Codes, made from shares by pairing."""

from heapq import heapify, heappop, heappush

from sharepack.shares import check_shares


def pairs(shares):
    """Tell the pairs, each a first and an other node, in the order in which they are made."""
    check_shares(shares)
    # The number stands behind the weight, so that of two of one weight the lesser number is less.
    free = [(share, number) for number, share in enumerate(shares)]
    heapify(free)
    made = []
    while len(free) > 1:
        least, first = heappop(free)
        following, other = heappop(free)
        heappush(free, (least + following, len(shares) + len(made)))
        made.append((first, other))
    return made


def codes(shares):
    """Tell the code of each sign, in the order of the signs."""
    made = pairs(shares)
    words = [""] * (len(shares) + len(made))
    # A pair is made behind its two nodes: from the last pair on, each pair's way is known when it is reached.
    for at in reversed(range(len(made))):
        first, other = made[at]
        way = words[len(shares) + at]
        words[first] = way + "0"
        words[other] = way + "1"
    return words[:len(shares)]


def cost(shares):
    """Tell the sum of each share times the length of its code."""
    words = codes(shares)
    return sum([share * len(word) for share, word in zip(shares, words)])
