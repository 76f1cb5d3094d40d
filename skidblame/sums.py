"""Least sums of weights along told lists, from each place that a sample is told at to the next one."""


def pairs_of(source):
    """Return a dict from each (q, sign) to the ascending list of the (p, r) of moves to this sign."""
    pairs = {}
    for told, taken, goal in source.moves:
        pairs.setdefault((told, source.program[goal][0]), []).append((taken, goal))
    return pairs


def lightest(source, weights):
    """Return a dict from each (q, sign) to a dict from each r to the least (weight of p, p)."""
    table = {}
    for told, taken, goal in source.moves:
        row = table.setdefault((told, source.program[goal][0]), {})
        step = (weights[taken], taken)
        row[goal] = min(row.get(goal, step), step)
    return table


def sums_after(table, sums, sign):
    """Return the least sums behind one more sign, in a dict by the places it can be told at, ascending."""
    after = {}
    for told, value in sums.items():
        for goal, (weight, _) in table.get((told, sign), {}).items():
            after[goal] = min(after.get(goal, value + weight), value + weight)
    return {goal: after[goal] for goal in sorted(after)}


def sums_ahead(table, told):
    """Return the least sums of each beginning of a told list, in dicts by the places it ends with."""
    rows = [{-1: 0}]
    for sign in told:
        rows.append(sums_after(table, rows[-1], sign))
    return rows


def sums_behind(table, told, ahead):
    """Return the least sums of what follows each beginning, by those places from which the rest can follow."""
    rows = [{place: 0 for place in ahead[-1]}]
    for places, sign in zip(ahead[:-1][::-1], told[::-1]):
        rest, row = rows[-1], {}
        for place in places:
            steps = table.get((place, sign), {})
            sums = [steps[goal][0] + rest[goal] for goal in steps if goal in rest]
            if len(sums) > 0:
                row[place] = min(sums)
        rows.append(row)
    return rows[::-1]


def lightest_fitting(source, told, weights):
    """Return the least one of the fittings with the least weight, or None if there is no fitting."""
    table = lightest(source, weights)
    rests = sums_behind(table, told, sums_ahead(table, told))
    if len(rests[0]) == 0:
        return None
    pairs, found, place = pairs_of(source), [], -1
    for sign, here, rest in zip(told, rests, rests[1:]):
        steps = [(p, r) for p, r in pairs[place, sign] if r in rest and weights[p] + rest[r] == here[place]]
        found.append(min(steps))
        place = found[-1][1]
    return found
