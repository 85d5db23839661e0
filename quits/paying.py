"""What lays pay: rank by rank, by shares within a rank."""

from quits.parts import least, minus, over, plus, times, total, under
from quits.sheets import owes, ranked


def paid(sheet, lays):
    owed = ranked(len(lays), sheet)
    shares = [shares_paid(owed[member], lay) for member, lay in enumerate(lays)]
    return [times((due[3], 1), shares[due[0]][due[2]]) for due in sheet]


def shares_paid(owed, lay):
    shares = []
    rest = lay
    for here in owed:
        laid = least(rest, (here, 1))
        rest = minus(rest, laid)
        shares.append(over(laid, (here, 1)) if here > 0 else (0, 1))
    return shares


def stop_of(owed, lay):
    end = 0
    for rank, here in enumerate(owed):
        end += here
        if under(lay, (end, 1)):
            return rank
    return None


def got(sheet, lays):
    gains = [[] for lay in lays]
    for number, gain in enumerate(paid(sheet, lays)):
        gains[sheet[number][1]].append(gain)
    return [total(some) for some in gains]


def is_clearing(sheet, purses, lays):
    if not are_lays(sheet, lays):
        return False
    return next_lays(sheet, purses, lays) == list(lays)


def are_lays(sheet, lays):
    owed = owes(len(lays), sheet)
    return all([not under(lay, (0, 1)) and not under((owed[member], 1), lay) for member, lay in enumerate(lays)])


def next_lays(sheet, purses, lays):
    owed = owes(len(lays), sheet)
    gains = got(sheet, lays)
    return [least((owed[member], 1), plus((purse, 1), gains[member])) for member, purse in enumerate(purses)]


def rounds(sheet, purses, turns):
    lists = [[(owed, 1) for owed in owes(len(purses), sheet)]]
    for turn in range(turns):
        lists.append(next_lays(sheet, purses, lists[turn]))
    return lists
