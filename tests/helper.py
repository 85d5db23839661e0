"""What several tests share: sheets by chance, and checks that follow the document's words."""

from fractions import Fraction

GREAT = 10 ** 12


def some_sheet(chance, many, count, most=20, noughts=True):
    """Dues by chance; one in eight of amount 0 where noughts are wanted."""
    sheet = []
    while many > 1 and len(sheet) < count:
        payer, payee = chance.sample(range(many), 2)
        amount = 0 if noughts and chance.randrange(8) == 0 else chance.randrange(1, most + 1)
        sheet.append((payer, payee, chance.randrange(3), amount))
    return sheet


def full_sheet(chance, many=9, count=64):
    """The greatest sheet that is promised: great amounts, no two members alike."""
    return some_sheet(chance, many, count, GREAT, False)


def whole_ring(many, amount, rank=0):
    return [(member, (member + 1) % many, rank, amount) for member in range(many)]


def is_ring(sheet, ring):
    """The words of promise 11."""
    if len(ring) < 2 or any(type(number) is not int or not 0 <= number < len(sheet) for number in ring):
        return False
    dues = [sheet[number] for number in ring]
    turned = dues[1:] + dues[:1]
    return (
        all(due[3] > 0 for due in dues)
        and all(due[1] == after[0] for due, after in zip(dues, turned))
        and len({due[0] for due in dues}) == len(dues)
    )


def has_ring(many, sheet):
    """Whether some member reaches itself along dues above 0."""
    reach = {(due[0], due[1]) for due in sheet if due[3] > 0}
    for middle in range(many):
        for start in range(many):
            for end in range(many):
                if (start, middle) in reach and (middle, end) in reach:
                    reach.add((start, end))
    return any((member, member) in reach for member in range(many))


def nets_by_hand(many, sheet):
    return [
        sum(due[3] for due in sheet if due[1] == member) - sum(due[3] for due in sheet if due[0] == member)
        for member in range(many)
    ]


def put_in(sheet, amounts):
    return [due[:3] + (amount,) for due, amount in zip(sheet, amounts)]


def fraction(one):
    return Fraction(one[0], one[1])


def is_part(one):
    """Whether it is a tuple of two whole numbers in lowest terms, the second from 1 on."""
    if type(one) is not tuple or [type(number) for number in one] != [int, int] or one[1] < 1:
        return False
    made = Fraction(one[0], one[1])
    return (made.numerator, made.denominator) == one


def as_part(made):
    made = Fraction(made)
    return (made.numerator, made.denominator)


def paid_by_hand(sheet, lays):
    """The words of promise 16, with Python's own fractions."""
    told = []
    for payer, payee, rank, amount in sheet:
        ahead = sum(due[3] for due in sheet if due[0] == payer and due[2] < rank)
        here = sum(due[3] for due in sheet if due[0] == payer and due[2] == rank)
        laid = min(max(lays[payer] - ahead, Fraction(0)), Fraction(here))
        told.append(amount * laid / here if amount > 0 else Fraction(0))
    return told


def got_by_hand(sheet, lays):
    sums = paid_by_hand(sheet, lays)
    return [
        sum((each for due, each in zip(sheet, sums) if due[1] == member), Fraction(0)) for member in range(len(lays))
    ]


def owes_by_hand(many, sheet):
    return [sum(due[3] for due in sheet if due[0] == member) for member in range(many)]


def next_by_hand(sheet, purses, lays):
    owed = owes_by_hand(len(purses), sheet)
    return [min(Fraction(one), purse + gain) for one, purse, gain in zip(owed, purses, got_by_hand(sheet, lays))]


def stops_by_hand(sheet, lays):
    """The words of promise 21."""
    told = []
    for member, lay in enumerate(lays):
        sums = [sum(due[3] for due in sheet if due[0] == member and due[2] <= rank) for rank in range(3)]
        told.append(next((rank for rank in range(3) if lay < sums[rank]), None))
    return told


def has_roads(sheet, lays):
    """Whether by these lays each member with a stop has a road (promise 22)."""
    stops = stops_by_hand(sheet, lays)
    arrived = {member for member, stop in enumerate(stops) if stop is None}
    for turn in stops:
        for payer, payee, rank, amount in sheet:
            if amount > 0 and rank == stops[payer] and payee in arrived:
                arrived.add(payer)
    return len(arrived) == len(stops)


def some_purses(chance, many, most):
    """Purses by chance, many of them empty."""
    return [chance.choice((0, 0, chance.randrange(most + 1), chance.randrange(most // 4 + 1))) for member in range(many)]
