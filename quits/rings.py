"""Rings of dues, and members lined up where there is none. Dues of amount 0 play no part."""

from quits.errors import Ringed


def a_ring(many, sheet):
    onward = ways_onward(many, sheet)
    going = [member for member in range(many) if onward[member] is not None]
    if going == []:
        return []
    payers = []
    member = going[0]
    while member not in payers:
        payers.append(member)
        member = sheet[onward[member]][1]
    # The walk came back to this member; what lies ahead of it only led to the ring.
    return [onward[payer] for payer in payers[payers.index(member):]]


def ways_onward(many, sheet):
    # A member from which every walk comes to an end lies in no ring. Where all these are gone, each due leads to a
    # member that has a due onward too, so a walk never ends and has to come back to itself.
    going = [True] * many
    onward = [None] * many
    # A turn without change is the last that matters, and each other one stops a member: so many turns are enough.
    for turn in range(many):
        onward = dues_among(sheet, going)
        going = [number is not None for number in onward]
    return onward


def dues_among(sheet, going):
    onward = [None] * len(going)
    for number, due in enumerate(sheet):
        if due[3] > 0 and going[due[0]] and going[due[1]]:
            onward[due[0]] = number
    return onward


def lined(many, sheet):
    line = []
    while len(line) < many:
        free = free_members(many, sheet, line)
        if free == []:
            raise Ringed("a ring of dues can't be lined up")
        line.extend(free)
    return line


def free_members(many, sheet, line):
    # Whoever is in the line is ahead already: only the dues of those outside it keep a member waiting.
    waiting = list(line)
    for due in sheet:
        if due[3] > 0 and due[0] not in line:
            waiting.append(due[1])
    return [member for member in range(many) if member not in waiting]
