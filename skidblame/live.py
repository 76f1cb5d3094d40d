"""Live watches: told sign by sign, they tell how often places were hit so far."""

from skidblame.errors import NoFit, NoMark, NoName, TooMany
from skidblame.fittings import weightless
from skidblame.names import is_name
from skidblame.sums import lightest, sums_after
from skidblame.weights import GREATEST, check_weights, turned

MOST_NAMES = 12


class Tally:
    """The least and the greatest sums of weights along all that was told, by where the last sample can be told."""

    def __init__(self, source, weights):
        self.light = lightest(source, weights)
        # The greatest sums are the least ones of the turned weights, turned back.
        self.heavy = lightest(source, turned(weights, GREATEST))
        self.light_rows = [{-1: 0}]
        self.heavy_rows = [{-1: 0}]

    def tell(self, sign):
        """Go on behind one more sign."""
        self.light_rows.append(sums_after(self.light, self.light_rows[-1], sign))
        self.heavy_rows.append(sums_after(self.heavy, self.heavy_rows[-1], sign))

    def take_back(self):
        """Go back behind the last sign."""
        self.light_rows.pop()
        self.heavy_rows.pop()

    def places_behind(self, sign):
        """Return the ascending list of the places that one more sample can be told at."""
        return list(sums_after(self.light, self.light_rows[-1], sign))

    def extremes(self):
        """Return the least and the greatest sum."""
        return min(self.light_rows[-1].values()), -min(self.heavy_rows[-1].values())


class Watch:
    """A live watch of a source."""

    def __init__(self, source):
        self.source = source
        self._told = []
        self._undone = []
        # Nothing weighs here: this tally is kept for the places alone.
        self._reach = Tally(source, weightless(source))
        self._tallies = {}

    @property
    def signs(self):
        """The list of the signs that were told."""
        return list(self._told)

    @property
    def places(self):
        """The ascending list of the places that the last sample can be told at."""
        return list(self._reach.light_rows[-1])

    def __call__(self, sign):
        """Tell a sign; return the ascending list of the places that the sample can be told at."""
        if not is_name(sign) or len(self._reach.places_behind(sign)) == 0:
            raise NoFit("this is no sign that can come next")
        self._tell(sign)
        self._undone = []
        return self.places

    def __len__(self):
        return len(self._told)

    def __contains__(self, name):
        return is_name(name) and name in self._tallies

    def _tell(self, sign):
        self._told.append(sign)
        self._reach.tell(sign)
        for tally in self._tallies.values():
            tally.tell(sign)

    def undo(self):
        """Take the last sign back."""
        if len(self._told) == 0:
            raise NoMark("there is nothing to undo")
        self._undone.append(self._told.pop())
        self._reach.take_back()
        for tally in self._tallies.values():
            tally.take_back()

    def redo(self):
        """Tell again the sign that was taken back last."""
        if len(self._undone) == 0:
            raise NoMark("there is nothing to tell again")
        self._tell(self._undone.pop())

    def keep(self, name, weights):
        """Keep weights under a name, also in the place of others."""
        if not is_name(name):
            raise NoName("this is no name")
        check_weights(self.source, weights)
        if name not in self._tallies and len(self._tallies) == MOST_NAMES:
            raise TooMany(MOST_NAMES)
        tally = Tally(self.source, weights)
        for sign in self._told:
            tally.tell(sign)
        self._tallies[name] = tally

    def forget(self, name):
        """Keep the weights under a name no longer."""
        self._check_known(name)
        del self._tallies[name]

    def _check_known(self, name):
        """Raise NoName if no weights are kept under any object."""
        if name not in self:
            raise NoName("no weights are kept under this")

    def names(self):
        """Return the ascending list of the names."""
        return sorted(self._tallies)

    def between(self, name):
        """Return the least and the greatest weight, under a name, of a fitting of all that was told."""
        self._check_known(name)
        return self._tallies[name].extremes()


def widths(watch):
    """Return the dict from each name, ascending, to the greatest less the least weight."""
    found = {}
    for name in watch.names():
        low, high = watch.between(name)
        found[name] = high - low
    return found
