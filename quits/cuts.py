"""Rings cut short one by one."""

from quits.rings import a_ring
from quits.sheets import amounts_of, with_amounts


def cut(many, sheet):
    left = amounts_of(sheet)
    cuts = []
    ring = a_ring(many, sheet)
    # Each cut leaves nothing of one due at least, so there are no more cuts than dues.
    while ring != []:
        fewest = min([left[number] for number in ring])
        for number in ring:
            left[number] -= fewest
        cuts.append((ring, fewest))
        ring = a_ring(many, with_amounts(sheet, left))
    return (left, cuts)
