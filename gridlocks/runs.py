"""Runs: a way through the grid of a pair, led step by step."""

from gridlocks.errors import BadTurn
from gridlocks.grids import open_places, steps_from
from gridlocks.programs import all_held, is_number
from gridlocks.ways import places, word_at


class Run:
    """A run of a pair; it begins with no step done."""

    def __init__(self, pair):
        self._pair = pair
        self._way = ()

    @property
    def pair(self):
        """The pair that runs."""
        return self._pair

    @property
    def way(self):
        """The tuple of all turns that stand."""
        return self._way

    def __len__(self):
        return len(self._way)

    def go(self, which):
        """Let a program do its next step, and tell how the way stands then."""
        if not is_number(which, 1) or which not in self.can_go():
            raise BadTurn("no program, or its step cannot be done")
        self._way = (*self._way, which)
        return word_at(self._pair, self.place())

    def place(self):
        """Return how many steps each program has done."""
        return places(self._pair, self._way)[-1]

    def holds(self):
        """Return both tuples of the locks that the programs hold, ascending."""
        i, j = self.place()
        return _locks_behind(self._pair.one, i), _locks_behind(self._pair.other, j)

    def can_go(self):
        """List, ascending, the programs whose next step can be done."""
        return steps_from(open_places(self._pair), self.place())

    def undo(self):
        """Take the last step back, and tell whether there was one."""
        if not self._way:
            return False
        self._way = self._way[:-1]
        return True

    def copy(self):
        """Return an independent run that stands as this one."""
        run = Run(self._pair)
        run._way = self._way
        return run


def _locks_behind(program, many):
    """Return the ascending tuple of the locks that a program holds behind so many steps."""
    return tuple(sorted(all_held(program)[many]))
