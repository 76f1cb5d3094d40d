"""Fittings, runs that show them, and differences as points 6, 7 and 9 tell them, gone through one by one."""

from tests.plain import by_sets, is_skid


def moves_of(program, watcher):
    """The list of the moves, not by the package."""
    return sorted(by_sets(program, watcher))


def lists_of(signs, most):
    """Each list of at most so many signs."""
    rows = [[]]
    for _ in range(most + 1):
        yield from rows
        rows = [[*row, sign] for row in rows for sign in signs]


def all_fittings(program, moves, told):
    """The ascending list of all fittings of a told list."""
    rows = [[]]
    for sign in told:
        rows = [
            [*row, (p, r)] for row in rows for q, p, r in moves
            if q == (row[-1][1] if row else -1) and program[r][0] == sign
        ]
    return sorted(rows)


def weigh(weights, fitting):
    total = 0
    for p, _ in fitting:
        total += weights[p]
    return total


def fewest_steps(program, watcher, fitting):
    """How many steps the shortest run has that shows a fitting, by going on step by step; None without one.

    A state is (place, told, since, slide): so many samples were told, the last one so many steps since,
    and the next one was taken so many steps ago (None if it was not).
    """
    gap, wide, low, high, marks = watcher
    states, seen = {(0, 0, 0, None)}, set()
    for steps in range(2000):
        todo, here = list(states), set()
        while todo:
            state = todo.pop()
            if state in here:
                continue
            here.add(state)
            place, told, since, slide = state
            if told == len(fitting):
                return steps
            p, r = fitting[told]
            if slide is None and place == p and (told == 0 or gap <= since and (wide is None or since <= wide)):
                todo.append((place, told, since, 0))
            if slide is not None and place == r and (slide >= low or place in marks or program[place][1] == ()):
                todo.append((place, told + 1, 0, None))
        if here <= seen:
            return None
        seen |= here
        states = set()
        for place, told, since, slide in here:
            for after in program[place][1]:
                if slide is None:
                    states.add((after, told, min(since + 1, 31), None))
                elif place not in marks and slide < high:
                    states.add((after, told, since, slide + 1))
    return None


def sampled(draw, program, watcher, most):
    """A drawn run with samples: the run, the moments (taken, told) and what they show."""
    gap, wide = watcher[:2]
    run = [0]
    while len(run) < most and program[run[-1]][1]:
        run.append(program[run[-1]][1][draw.below(len(program[run[-1]][1]))])
    moments, least = [], draw.below(3)
    while True:
        latest = len(run) - 1 if wide is None or not moments else min(len(run) - 1, moments[-1][1] + wide)
        can = [
            (taken, told) for taken in range(least, latest + 1) for told in range(taken, min(len(run), taken + 31))
            if is_skid(program, watcher, run[taken:told + 1])
        ]
        if not can or draw.below(8) == 0:
            return run, moments, [(run[taken], run[told]) for taken, told in moments]
        moments.append(can[min(draw.below(len(can)), draw.below(len(can)))])
        least = moments[-1][1] + gap


def pair_steps(program, moves, weights):
    """From each pair of places what one more sign can do: the places behind, and the difference it adds."""
    steps = {}
    for q, p, r in moves:
        for s, o, t in moves:
            if program[r][0] == program[t][0] and (q == -1) == (s == -1):
                steps.setdefault((q, s), set()).add(((r, t), weights[p] - weights[o]))
    return steps


def differences(steps, start, most):
    """By the number of signs, up to most: each pair of places behind start, with all differences to it."""
    rows = [{start: {0}}]
    for _ in range(most):
        after = {}
        for node, sums in rows[-1].items():
            for goal, gain in steps.get(node, ()):
                after.setdefault(goal, set()).update(total + gain for total in sums)
        rows.append(after)
    return rows
