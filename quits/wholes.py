"""Whole numbers."""


def divisor(one, other):
    # Each step leaves a remainder, so the count of steps grows with the figures, not with the worth.
    kept = abs(one)
    rest = abs(other)
    while rest != 0:
        further = kept % rest
        kept = rest
        rest = further
    return kept
