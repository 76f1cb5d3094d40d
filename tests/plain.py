"""Moves, skids and stretches as points 3 to 5 of the document tell them, told out step by step."""


def stretches(program, start, most):
    """Each stretch from start of at most so many steps, one by one."""
    rows = [[start]]
    for steps in range(most + 1):
        yield from rows
        rows = [[*row, after] for row in rows for after in program[row[-1]][1]]


def is_walk(program, stretch):
    return len(stretch) > 0 and all(b in program[a][1] for a, b in zip(stretch, stretch[1:]))


def is_skid(program, watcher, stretch):
    """Whether a stretch is a skid, word by word."""
    _, _, low, high, marks = watcher
    steps, last = len(stretch) - 1, stretch[-1]
    if not is_walk(program, stretch) or steps > high or any(place in marks for place in stretch[:-1]):
        return False
    return steps >= low or last in marks or program[last][1] == ()


def least_skids(program, watcher, start):
    """From each place that a skid leads to, the least number of steps of one, by all stretches."""
    found = {}
    for stretch in stretches(program, start, watcher[3]):
        if is_skid(program, watcher, stretch):
            found.setdefault(stretch[-1], len(stretch) - 1)
    return found


def least_ways(program, watcher, told):
    """From each place where a sample can be taken, the least number of steps to it, likewise."""
    gap, wide, many = watcher[0], watcher[1], len(program)
    least, most = (0, many) if told == -1 else (gap, gap + many if wide is None else wide)
    found = {}
    for stretch in stretches(program, max(told, 0), most):
        if len(stretch) - 1 >= least:
            found.setdefault(stretch[-1], len(stretch) - 1)
    return found


def by_stretches(program, watcher):
    """The dict from each move to the steps (to p, of the skid), by all stretches one by one."""
    slides = [least_skids(program, watcher, place) for place in range(len(program))]
    return {
        (told, taken, goal): (steps, slides[taken][goal])
        for told in range(-1, len(program))
        for taken, steps in least_ways(program, watcher, told).items() for goal in slides[taken]
    }


def places_after(program, start, steps, passable):
    """The places that stretches of just so many steps come to, going on from passable ones only."""
    places = {start}
    for _ in range(steps):
        places = {after for place in places if place in passable for after in program[place][1]}
    return places


def by_sets(program, watcher):
    """The dict from each move to the steps (to p, of the skid), by sets of places, for long walks."""
    gap, wide, low, high, marks = watcher
    everywhere = range(len(program))
    free = [place for place in everywhere if place not in marks]
    found = {}
    for told in range(-1, len(program)):
        least, most = (0, 60) if told == -1 else (gap, gap + 60 if wide is None else wide)
        for steps in range(least, most + 1):
            for taken in places_after(program, max(told, 0), steps, everywhere):
                for slide in range(high + 1):
                    for goal in places_after(program, taken, slide, free):
                        if slide >= low or goal in marks or not program[goal][1]:
                            found.setdefault((told, taken, goal), (steps, slide))
    return found
