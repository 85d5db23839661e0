"""Statements of closed days' reports.

A report is a tuple (day, sheet, gaps, rows, rests, left, lays, ends, outs).
"""

from quits.paying import got
from quits.sheets import claims, owes, with_amounts

SHEET = 1
ROWS = 3
LEFT = 5
LAYS = 6
ENDS = 7


def statement(report, member):
    sheet = report[SHEET]
    rows = report[ROWS]
    lays = report[LAYS]
    many = len(lays)
    after = with_amounts(sheet, report[LEFT])
    owed = owes(many, sheet)[member]
    off = owed - owes(many, after)[member]
    given = sum([row[1][member] for row in rows])
    borne = sum([row[2][member] for row in rows])
    gain = got(after, lays)[member]
    return (owed, claims(many, sheet)[member], off, given, borne, lays[member], gain, report[ENDS][member])
