"""Gaps, and the layers that bear them."""

from quits.bearing import by_level, by_shares
from quits.errors import NoLayer
from quits.sheets import nets

WORDS = ("pledge", "share", "own", "others", "level")


def gaps_of(sheet, purses):
    sums = nets(len(purses), sheet)
    return [max(0, -sums[member] - purse) for member, purse in enumerate(purses)]


def layered(order, gaps, pledges, shares, own):
    check_order(order)
    rests = list(gaps)
    shares_left = list(shares)
    rows = []
    for word in order:
        borne = borne_in(word, rests, pledges, shares_left, own, [gap == 0 for gap in gaps])
        given = given_in(word, rests, borne)
        rows.append((word, given, borne))
        rests = less(rests, given)
        if word in ("share", "others", "level"):
            shares_left = less(shares_left, borne)
    return (rows, rests)


def check_order(order):
    for place, word in enumerate(order):
        if word not in WORDS or word in order[:place]:
            raise NoLayer("an order has layers' words alone, each at most once")


def borne_in(word, rests, pledges, shares, own, whole):
    if word == "pledge":
        return [min(rest, pledges[member]) for member, rest in enumerate(rests)] + [0]
    if word == "share":
        return [min(rest, shares[member]) for member, rest in enumerate(rests)] + [0]
    if word == "own":
        return [0 for rest in rests] + [min(own, sum(rests))]
    bounds = [share if whole[member] else 0 for member, share in enumerate(shares)]
    coins = min(sum(bounds), sum(rests))
    if word == "others":
        return by_shares(coins, bounds) + [0]
    return by_level(coins, bounds) + [0]


def given_in(word, rests, borne):
    if word in ("pledge", "share"):
        return borne[:-1]
    return by_shares(sum(borne), rests)


def less(some, off):
    return [number - off[place] for place, number in enumerate(some)]
