"""Pairs of programs, and the blocks that bar places of their grid."""

from gridlocks.programs import check_program, hold_times


class Pair:
    """Two programs that run side by side."""

    def __init__(self, one, other):
        check_program(one, 0)
        check_program(other, 1)
        self._one = one
        self._other = other

    @property
    def one(self):
        """The program that a way calls 0."""
        return self._one

    @property
    def other(self):
        """The program that a way calls 1."""
        return self._other

    def __eq__(self, other):
        return isinstance(other, Pair) and self._one == other._one and self._other == other._other


def blocks(pair):
    """List, ascending, (lock, first, last, begin, end) for each block of the grid."""
    return sorted([
        (lock, first, last, begin, end)
        for lock, first, last in hold_times(pair.one)
        for same, begin, end in hold_times(pair.other)
        if same == lock
    ])
