"""Walks through a program, step by step."""


def step_rows(program, start, most, halts):
    """Return the rows of a walk from start, row k for the stretches of k steps, up to most.

    A row has each place that such a stretch comes to, with a place ahead of it (None at the
    start). No stretch goes on behind a place of halts.
    """
    rows = [{start: None}]
    while len(rows) <= most:
        after = {}
        for place in rows[-1]:
            if place not in halts:
                after.update({goal: place for goal in program[place][1]})
        rows.append(after)
    return rows


def trail(rows, steps, place):
    """Return a stretch of so many steps to a place of this row."""
    backwards = [place]
    for step in range(steps, 0, -1):
        backwards.append(rows[step][backwards[-1]])
    return backwards[::-1]


def shortest(program, start, least, most, halts):
    """Return a dict from each place that stretches from start come to, to a shortest of them.

    They have at least so many steps, or end with a place of halts, and at most so many.
    """
    rows = step_rows(program, start, most, halts)
    found = {}
    for steps, row in enumerate(rows):
        for place in row:
            if place not in found and (steps >= least or place in halts):
                found[place] = trail(rows, steps, place)
    return found
