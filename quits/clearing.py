"""The greatest clearing, grown from below.

All lays begin at 0 with the purses shut. The purses are opened bit by bit and lays grow with them; coins that can go
round among members that all fall short go round first. So no member ever lays out more than it has, and at the end
none could lay out more.
"""

from quits.parts import least, minus, over, plus, times
from quits.paying import got, stop_of
from quits.sheets import ranked
from quits.solving import solved


def cleared(sheet, purses):
    owed = ranked(len(purses), sheet)
    lays = [(0, 1) for purse in purses]
    opened = (0, 1)
    # Each turn pays a rank of a member in full, or opens the purses to the end.
    while True:
        ranks = [stop_of(owed[member], lay) for member, lay in enumerate(lays)]
        flows = flows_of(sheet, ranks)
        circle = closed_circle(flows, ranks)
        if circle != []:
            rates = circling_rates(flows, circle)
            lays = grown(lays, rates, least_room(owed, ranks, lays, rates))
        elif opened == (1, 1):
            return lays
        else:
            rates = opening_rates(flows, ranks, purses)
            step = least_room(owed, ranks, lays, rates)
            shut = minus((1, 1), opened)
            step = shut if step is None else least(step, shut)
            lays = grown(lays, rates, step)
            opened = plus(opened, step)


def flows_of(sheet, ranks):
    """By payer, then by payee: the sums of its dues in the rank where it stands; 0 for one that falls short nowhere."""
    flows = [[0] * len(ranks) for rank in ranks]
    for payer, payee, rank, amount in sheet:
        if rank == ranks[payer]:
            flows[payer][payee] += amount
    return flows


def closed_circle(flows, ranks):
    """A smallest set of short members whose flows all stay within it; [] where there is none."""
    circles = []
    for member in range(len(ranks)):
        reached = reach_of(flows, member)
        if all([ranks[other] is not None for other in reached]):
            circles.append(reached)
    return min(circles, key=len, default=[])


def reach_of(flows, member):
    """The member and all that its flows come to, however many steps on."""
    reached = [member]
    place = 0
    while place < len(reached):
        here = flows[reached[place]]
        reached.extend([other for other, flow in enumerate(here) if flow > 0 and other not in reached])
        place += 1
    return reached


def balances(flows, members):
    """For each member a row: what it lays out less what it gets, for each one's growth told as a share of its rank."""
    rows = [[(-flows[other][member], 1) for other in members] for member in members]
    for place, member in enumerate(members):
        rows[place][place] = (sum(flows[member]), 1)
    return rows


def circling_rates(flows, circle):
    """The proportion in which each of the circle gets just what it lays out."""
    rows = balances(flows, circle)
    right = [(0, 1) for member in circle]
    # One balance follows from the others, and only a proportion is asked: the first share may be set to 1.
    rows[0] = [(1 if place == 0 else 0, 1) for place in range(len(circle))]
    right[0] = (1, 1)
    return rates_of(flows, circle, solved(rows, right))


def opening_rates(flows, ranks, purses):
    """How fast lays grow, as the purses are opened, where each short member lays out all that comes to it."""
    short = [member for member, rank in enumerate(ranks) if rank is not None]
    right = [(purses[member], 1) for member in short]
    return rates_of(flows, short, solved(balances(flows, short), right))


def rates_of(flows, members, shares):
    rates = [(0, 1) for flow in flows]
    for place, member in enumerate(members):
        rates[member] = times(shares[place], (sum(flows[member]), 1))
    return rates


def least_room(owed, ranks, lays, rates):
    """How far lays may grow at these rates until a rank is paid in full; None where none grows."""
    room = None
    for member, rate in enumerate(rates):
        if rate[0] > 0:
            end = sum(owed[member][:ranks[member] + 1])
            here = over(minus((end, 1), lays[member]), rate)
            room = here if room is None else least(room, here)
    return room


def grown(lays, rates, step):
    return [plus(lay, times(rate, step)) for lay, rate in zip(lays, rates)]


def ends_of(sheet, purses):
    return ends_by(sheet, purses, cleared(sheet, purses))


def ends_by(sheet, purses, lays):
    """What each member ends with by these lays: its purse with what it gets, less its lay."""
    gains = got(sheet, lays)
    return [minus(plus((purse, 1), gains[member]), lays[member]) for member, purse in enumerate(purses)]
