"""Sheets made thin: the least sum of amounts by which all nets stay, with heights that show that it is the least."""

from quits.sheets import nets


def thinned(many, sheet):
    # Nothing is left at first; then what each member lacks to its net is sent to it, always by a shortest way. So no
    # way round ever makes the sum less.
    left = [0] * len(sheet)
    wanting = nets(many, sheet)
    while any([want > 0 for want in wanting]):
        send(sheet, left, wanting, shortest_way(many, sheet, left, wanting))
    return (left, heights_of(many, sheet, left))


def steps_of(sheet, left):
    # A due that is used may also be gone back along: so what an earlier way did can still be put right.
    steps = []
    for number, due in enumerate(sheet):
        if left[number] < due[3]:
            steps.append((due[0], due[1], number, 1))
        if left[number] > 0:
            steps.append((due[1], due[0], number, -1))
    return steps


def shortest_way(many, sheet, left, wanting):
    far = [0 if want < 0 else None for want in wanting]
    last_steps = [None] * many
    steps = steps_of(sheet, left)
    for turn in range(many):
        for step in steps:
            if far[step[0]] is not None:
                # Of ways of the same length the one of fewest steps is taken: else great amounts may go to and fro by
                # small sums. No way has more steps than members, so this never weighs as much as the length.
                there = far[step[0]] + step[3] * (many + 1) + 1
                if far[step[1]] is None or there < far[step[1]]:
                    far[step[1]] = there
                    last_steps[step[1]] = step
    ends = [member for member in range(many) if wanting[member] > 0 and far[member] is not None]
    return way_back(min(ends, key=lambda member: far[member]), last_steps)


def way_back(end, last_steps):
    way = []
    member = end
    while last_steps[member] is not None:
        way.append(last_steps[member])
        member = last_steps[member][0]
    return way


def send(sheet, left, wanting, way):
    # The way is told from its end back.
    start = way[-1][0]
    end = way[0][1]
    room = min(wanting[end], -wanting[start])
    for step in way:
        if step[3] > 0:
            room = min(room, sheet[step[2]][3] - left[step[2]])
        else:
            room = min(room, left[step[2]])
    for step in way:
        left[step[2]] += step[3] * room
    wanting[start] += room
    wanting[end] -= room


def heights_of(many, sheet, left):
    # Along a step no shortest way grows by more than the step: this is just what is asked of heights.
    heights = [0] * many
    steps = steps_of(sheet, left)
    for turn in range(many):
        for step in steps:
            heights[step[1]] = min(heights[step[1]], heights[step[0]] + step[3])
    return heights
