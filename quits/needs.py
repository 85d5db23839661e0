"""Rules, and what a position needs by them."""

from quits.errors import NoRule
from quits.parts import part
from quits.worst import losses_of, worst_days


def joined(one, other):
    return [mine + more for mine, more in zip(one, other)]


def need_of(rule, position, moves):
    check_rule(rule, moves)
    losses = losses_of(position, moves)
    worst = [losses[day] for day in worst_days(position, moves, rule[1])]
    if rule[0] == "worst":
        need = (worst[-1], 1)
    else:
        need = part(sum(worst), len(worst))
    return need if need[0] > 0 else (0, 1)


def check_rule(rule, moves):
    if rule[0] not in ("worst", "mean"):
        raise NoRule("a rule's word is worst or mean")
    if rule[1] < 1 or rule[1] > len(moves):
        raise NoRule("a rule asks for one day at least and no more days than there are")
