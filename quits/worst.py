"""Losses of a position by past days' moves, and the worst of these days."""


def losses_of(position, moves):
    return [-sum([units * move for units, move in zip(position, day)]) for day in moves]


def worst_days(position, moves, k):
    losses = losses_of(position, moves)
    return sorted(range(len(losses)), key=lambda day: (-losses[day], day))[:k]
