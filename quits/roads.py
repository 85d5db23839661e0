"""Roads of dues from members that fall short to members that pay in full."""

from quits.clearing import cleared
from quits.paying import stop_of
from quits.sheets import ranked


def stops(sheet, lays):
    owed = ranked(len(lays), sheet)
    return [stop_of(owed[member], lay) for member, lay in enumerate(lays)]


def roads(sheet, purses):
    ranks = stops(sheet, cleared(sheet, purses))
    onward = first_dues(sheet, ranks)
    return [road_from(sheet, onward, member) for member in range(len(ranks))]


def first_dues(sheet, ranks):
    onward = [None] * len(ranks)
    arrived = [rank is None for rank in ranks]
    # A road is only led to a member that has arrived already, so none comes back to itself. Each turn lets one more
    # member arrive at least, as long as one is missing.
    for turn in ranks:
        for number, due in enumerate(sheet):
            if due[3] > 0 and due[2] == ranks[due[0]] and not arrived[due[0]] and arrived[due[1]]:
                onward[due[0]] = number
                arrived[due[0]] = True
    return onward


def road_from(sheet, onward, member):
    road = []
    here = member
    while onward[here] is not None:
        road.append(onward[here])
        here = sheet[onward[here]][1]
    return road
