"""Systems of equations over parts."""

from quits.errors import NoAnswer
from quits.parts import part
from quits.wholes import divisor


def solved(rows, right):
    count = len(rows)
    table = [whole_row(list(rows[place]) + [right[place]]) for place in range(count)]
    # With whole numbers every division below comes out even, so nothing has to be brought to lowest terms on the way.
    before = 1
    for place in range(count):
        table = with_first(table, place)
        table = swept(table, place, before)
        before = table[place][place]
    return [part(row[count], before) for row in table]


def whole_row(row):
    # An equation stays true times any number but 0.
    common = 1
    for top, bottom in row:
        common = common // divisor(common, bottom) * bottom
    return [top * (common // bottom) for top, bottom in row]


def with_first(table, place):
    # The rows ahead of this place are done with; of the others any one that holds its unknown will do.
    for found in range(place, len(table)):
        if table[found][place] != 0:
            swapped = list(table)
            swapped[place] = table[found]
            swapped[found] = table[place]
            return swapped
    raise NoAnswer("these equations have no answer, or more than one")


def swept(table, place, before):
    sweeper = table[place]
    made = []
    for number, row in enumerate(table):
        if number == place:
            made.append(row)
        else:
            made.append(swept_row(row, sweeper, place, before))
    return made


def swept_row(row, sweeper, place, before):
    keep = sweeper[place]
    take = row[place]
    return [(keep * mine - take * other) // before for mine, other in zip(row, sweeper)]
