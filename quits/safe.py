"""Rings cut so that nobody's end changes."""

from quits.clearing import cleared
from quits.cuts import cut
from quits.roads import stops
from quits.sheets import amounts_of, with_amounts


def safe_cut(sheet, purses):
    ranks = stops(sheet, cleared(sheet, purses))
    free = [ranks[due[0]] is None and ranks[due[1]] is None for due in sheet]
    amounts = amounts_of(sheet)
    # No ring goes along a due of amount 0: so the dues of members that fall short are out of the cutting's reach.
    within = [amount if free[number] else 0 for number, amount in enumerate(amounts)]
    left = cut(len(purses), with_amounts(sheet, within))[0]
    return [left[number] if free[number] else amount for number, amount in enumerate(amounts)]
