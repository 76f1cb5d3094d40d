"""Sources: a program with a watcher, and the moves that they have."""

from skidblame.errors import Mismatch, NoProgram, NoWatcher
from skidblame.names import is_integer
from skidblame.programs import is_program, is_watcher
from skidblame.walks import shortest


def _ways(program, watcher, told):
    """Return a dict from each place where a sample can be taken next, to a shortest stretch."""
    # Behind its gap steps a stretch that comes to a place twice can be cut short there, so that
    # no more further steps are needed than there are other places.
    spare = len(program) - 1
    if told == -1:
        return shortest(program, 0, 0, spare, ())
    gap, wide = watcher[0], watcher[1]
    most = gap + spare if wide is None else wide
    return shortest(program, told, gap, most, ())


def _slides(program, watcher, taken):
    """Return a dict from each place to which a skid leads from taken, to a shortest skid."""
    low, high, marks = watcher[2], watcher[3], watcher[4]
    ends = tuple([place for place, (sign, nexts) in enumerate(program) if len(nexts) == 0])
    return shortest(program, taken, low, high, marks + ends)


def _moves_of(program, watcher):
    """Return the ascending list of all moves."""
    places = list(range(len(program)))
    goals = [sorted(_slides(program, watcher, taken)) for taken in places]
    moves = []
    for told in [-1] + places:
        for taken in sorted(_ways(program, watcher, told)):
            moves.extend([(told, taken, goal) for goal in goals[taken]])
    return moves


class Source:
    """A program with a watcher all of whose marks are places of the program."""

    def __init__(self, program, watcher):
        if not is_program(program):
            raise NoProgram("this is no program")
        if not is_watcher(watcher):
            raise NoWatcher("this is no watcher")
        if not all([mark < len(program) for mark in watcher[4]]):
            raise NoWatcher("a mark is no place of the program")
        self.program = program
        self.watcher = watcher
        self._known = {move: True for move in _moves_of(program, watcher)}

    @property
    def moves(self):
        """The ascending list of the moves."""
        return list(self._known)

    def __eq__(self, other):
        if not isinstance(other, Source):
            return False
        return self.program == other.program and self.watcher == other.watcher

    def __len__(self):
        return len(self._known)

    def __contains__(self, thing):
        if not isinstance(thing, tuple):
            return False
        return all([is_integer(number) for number in thing]) and thing in self._known


def skids(source, place):
    """Return the ascending list of the places to which a skid leads from a place."""
    return sorted(_slides(source.program, source.watcher, place))


def stretch_of(source, move):
    """Return a shortest stretch that shows a move, and after how many steps the sample is taken."""
    if move not in source:
        raise Mismatch("this is no move of the source")
    told, taken, goal = move
    way = _ways(source.program, source.watcher, told)[taken]
    skid = _slides(source.program, source.watcher, taken)[goal]
    return way + skid[1:], len(way) - 1


def is_skid(source, stretch):
    """Tell whether a stretch of the source's program is a skid."""
    low, high, marks = source.watcher[2], source.watcher[3], source.watcher[4]
    steps, last = len(stretch) - 1, stretch[-1]
    if steps > high or any([place in marks for place in stretch[:-1]]):
        return False
    return steps >= low or last in marks or len(source.program[last][1]) == 0
