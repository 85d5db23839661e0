"""The greatest clearing, grown from below.

All lays begin at 0 with the purses shut. The purses are opened bit by bit and lays grow with them; coins that can go
round among members that all fall short go round first. So no member ever lays out more than it has, and at the end
none could lay out more.
"""

from quits.parts import least, minus, over, plus, times
from quits.paying import got, stop_of
from quits.sheets import ranked
from quits.solving import solved


def cleared(sheet, purses):
    owed = ranked(len(purses), sheet)
    lays = [(0, 1) for purse in purses]
    opened = (0, 1)
    # Each turn pays a rank of a member in full, or opens the purses to the end.
    while True:
        ranks = [stop_of(owed[member], lay) for member, lay in enumerate(lays)]
        flows = flows_of(sheet, ranks)
        circle = closed_circle(flows, ranks)
        if circle != []:
            rates = circling_rates(flows, circle)
            lays = grown(lays, rates, least_room(owed, ranks, lays, rates))
        elif opened == (1, 1):
            return lays
        else:
            rates = opening_rates(flows, ranks, purses)
            step = least_room(owed, ranks, lays, rates)
            shut = minus((1, 1), opened)
            step = shut if step is None else least(step, shut)
            lays = grown(lays, rates, step)
            opened = plus(opened, step)


def flows_of(sheet, ranks):
    # One that pays in full lays out no more, so its flows stay 0.
    flows = [[0] * len(ranks) for rank in ranks]
    for payer, payee, rank, amount in sheet:
        if rank == ranks[payer]:
            flows[payer][payee] += amount
    return flows


def closed_circle(flows, ranks):
    # All that a member reaches has to be in its circle; and one of the smallest has no smaller one in it.
    circles = []
    for member in range(len(ranks)):
        reached = reach_of(flows, member)
        if all([ranks[other] is not None for other in reached]):
            circles.append(reached)
    return min(circles, key=len, default=[])


def reach_of(flows, member):
    reached = [member]
    place = 0
    while place < len(reached):
        here = flows[reached[place]]
        reached.extend([other for other, flow in enumerate(here) if flow > 0 and other not in reached])
        place += 1
    return reached


def balances(flows, members):
    # Each row is what a member lays out less what it gets. Growth is told as a share of the rank where one stands: so
    # all numbers in the rows are whole.
    rows = [[(-flows[other][member], 1) for other in members] for member in members]
    for place, member in enumerate(members):
        rows[place][place] = (sum(flows[member]), 1)
    return rows


def circling_rates(flows, circle):
    rows = balances(flows, circle)
    right = [(0, 1) for member in circle]
    # One balance follows from the others, and only a proportion is asked: the first share may be set to 1.
    rows[0] = [(1 if place == 0 else 0, 1) for place in range(len(circle))]
    right[0] = (1, 1)
    return rates_of(flows, circle, solved(rows, right))


def opening_rates(flows, ranks, purses):
    # There is no closed circle here: from each short member coins find a way out, and so there is just one answer.
    short = [member for member, rank in enumerate(ranks) if rank is not None]
    right = [(purses[member], 1) for member in short]
    return rates_of(flows, short, solved(balances(flows, short), right))


def rates_of(flows, members, shares):
    rates = [(0, 1) for flow in flows]
    for place, member in enumerate(members):
        rates[member] = times(shares[place], (sum(flows[member]), 1))
    return rates


def least_room(owed, ranks, lays, rates):
    room = None
    for member, rate in enumerate(rates):
        if rate[0] > 0:
            end = sum(owed[member][:ranks[member] + 1])
            here = over(minus((end, 1), lays[member]), rate)
            room = here if room is None else least(room, here)
    return room


def grown(lays, rates, step):
    return [plus(lay, times(rate, step)) for lay, rate in zip(lays, rates)]


def ends_of(sheet, purses):
    return ends_by(sheet, purses, cleared(sheet, purses))


def ends_by(sheet, purses, lays):
    gains = got(sheet, lays)
    return [minus(plus((purse, 1), gains[member]), lays[member]) for member, purse in enumerate(purses)]
