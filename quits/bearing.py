"""Coins that fall on bearers with bounds."""

from quits.errors import TooMuch


def by_shares(coins, bounds):
    check_coins(coins, bounds)
    together = sum(bounds)
    if together == 0:
        return [0 for bound in bounds]
    borne = [coins * bound // together for bound in bounds]
    broken = [coins * bound % together > 0 for bound in bounds]
    return with_one_more(borne, broken, coins - sum(borne))


def by_level(coins, bounds):
    check_coins(coins, bounds)
    if coins == sum(bounds):
        return list(bounds)
    level = level_of(coins, bounds)
    borne = [min(bound, level) for bound in bounds]
    above = [bound > level for bound in bounds]
    return with_one_more(borne, above, coins - sum(borne))


def check_coins(coins, bounds):
    if coins > sum(bounds):
        raise TooMuch("the sum is above all bounds together")


def level_of(coins, bounds):
    rest = coins
    bearers = len(bounds)
    # From the least bound on: one that lies at or below what is there for each is borne whole. The coins are fewer
    # than all bounds together, so this ends ahead of the last bearer.
    for bound in sorted(bounds):
        if bound * bearers > rest:
            break
        rest -= bound
        bearers -= 1
    return rest // bearers


def with_one_more(borne, chosen, left_over):
    made = []
    rest = left_over
    for number, coins in enumerate(borne):
        if chosen[number] and rest > 0:
            made.append(coins + 1)
            rest -= 1
        else:
            made.append(coins)
    return made
