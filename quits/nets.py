"""Dues set against one another: by pairs, or all against the house."""

from quits.sheets import nets


def paired(many, sheet):
    made = []
    for rank in range(3):
        between = sums_between(many, sheet, rank)
        for lesser in range(many):
            for greater in range(lesser + 1, many):
                more = between[lesser][greater] - between[greater][lesser]
                if more > 0:
                    made.append((lesser, greater, rank, more))
                elif more < 0:
                    made.append((greater, lesser, rank, -more))
    return made


def sums_between(many, sheet, rank):
    between = [[0] * many for member in range(many)]
    for due in sheet:
        if due[2] == rank:
            between[due[0]][due[1]] += due[3]
    return between


def housed(many, sheet):
    made = []
    for member, net in enumerate(nets(many, sheet)):
        if net < 0:
            made.append((member, many, 0, -net))
        elif net > 0:
            made.append((many, member, 0, net))
    return made
