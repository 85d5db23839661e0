"""A day settled: gaps borne by layers, rings cut, the rest cleared."""

from quits.clearing import cleared, ends_by
from quits.layers import gaps_of, layered
from quits.parts import under
from quits.safe import safe_cut
from quits.sheets import owes, with_amounts


def settled_day(sheet, purses, pledges, shares, own, order):
    gaps = gaps_of(sheet, purses)
    told = layered(order, gaps, pledges, shares, own)
    means = means_of(purses, told[0])
    left = safe_cut(sheet, means)
    after = with_amounts(sheet, left)
    lays = cleared(after, means)
    ends = ends_by(after, means, lays)
    return (gaps, told[0], told[1], left, lays, ends, outs_of(after, lays))


def means_of(purses, rows):
    return [purse + sum([row[1][member] for row in rows]) for member, purse in enumerate(purses)]


def outs_of(sheet, lays):
    owed = owes(len(lays), sheet)
    return [member for member, lay in enumerate(lays) if under(lay, (owed[member], 1))]
