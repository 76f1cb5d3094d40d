"""Programs, watchers and numbers that are drawn by arithmetic, the same ones each time."""

from skidblame.sources import Source


class Draw:
    """Numbers of a linear congruence."""

    def __init__(self, seed):
        self.state = seed

    def below(self, end):
        """A number from 0 to end - 1."""
        self.state = (self.state * 6364136223846793005 + 1442695040888963407) % 2 ** 64
        return (self.state >> 33) % end

    def some(self, things, chance):
        """A tuple of those things that are taken, each with one chance in so many."""
        return tuple([thing for thing in things if self.below(chance) == 0])

    def program(self, most, chance=2):
        """A program of one to most places; each place is a next with one chance in so many."""
        many = 1 + self.below(most)
        return tuple([(("a", "b", "c1")[self.below(3)], self.some(range(many), chance)) for _ in range(many)])

    def watcher(self, many, gaps, highs):
        """A watcher for so many places: a gap from 1 to gaps, wide not far above, high to highs."""
        gap = 1 + self.below(gaps)
        wide = (None, gap + self.below(3))[self.below(2)]
        high = self.below(highs + 1)
        return (gap, None if wide is None else min(wide, 30), self.below(high + 1), high, self.some(range(many), 3))


def all_programs(many):
    """Each program of so many places, all with the sign a."""
    rows = [tuple([k for k in range(many) if mask >> k & 1]) for mask in range(2 ** many)]
    programs = [()]
    for _ in range(many):
        programs = [(*program, ("a", nexts)) for program in programs for nexts in rows]
    return programs


def all_watchers(many, gaps, highs):
    """Each watcher for so many places with a gap to gaps, wide to two above, high to highs."""
    return [
        (gap, wide, low, high, tuple([k for k in range(many) if mask >> k & 1]))
        for gap in range(1, gaps + 1) for wide in (None, gap, gap + 1, gap + 2)
        for high in range(highs + 1) for low in range(high + 1) for mask in range(2 ** many)
    ]


def drawn_sources(seed, many, places, gaps=3, highs=4):
    """A few drawn programs with watchers: each with its source, and the drawing to go on with."""
    draw = Draw(seed)
    for _ in range(many):
        program = draw.program(places)
        watcher = draw.watcher(len(program), gaps, highs)
        yield draw, program, watcher, Source(program, watcher)


def drawn_weights(draw, many):
    """Weights that are often the same, or at their limits, for so many places."""
    reach = (1, 3, 10 ** 6)[draw.below(3)]
    return tuple([draw.below(2 * reach + 1) - reach for _ in range(many)])
