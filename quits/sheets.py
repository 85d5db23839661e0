"""Sheets: lists of dues, each a tuple (payer, payee, rank, amount), numbered from 0 as they stand."""


def owes(many, sheet):
    sums = [0] * many
    for payer, payee, rank, amount in sheet:
        sums[payer] += amount
    return sums


def claims(many, sheet):
    sums = [0] * many
    for payer, payee, rank, amount in sheet:
        sums[payee] += amount
    return sums


def nets(many, sheet):
    sums = [0] * many
    for payer, payee, rank, amount in sheet:
        sums[payer] -= amount
        sums[payee] += amount
    return sums


def ranked(many, sheet):
    sums = [[0, 0, 0] for member in range(many)]
    for payer, payee, rank, amount in sheet:
        sums[payer][rank] += amount
    return sums


def amounts_of(sheet):
    return [due[3] for due in sheet]


def with_amounts(sheet, amounts):
    return [(due[0], due[1], due[2], amounts[number]) for number, due in enumerate(sheet)]
