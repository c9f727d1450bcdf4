"""Crews of two to four programs, and all rows in which these do their steps."""

from gridlocks.errors import BadCrew, TooMany
from gridlocks.grids import (
    caught_standings, count_caught, count_done, least_caught, open_standings, standings_along,
)
from gridlocks.programs import check_program

FEWEST_PROGRAMS = 2
MOST_PROGRAMS = 4
MOST_STANDINGS = 5000


class Crew:
    """Programs that run side by side."""

    def __init__(self, programs):
        if not isinstance(programs, tuple) or not FEWEST_PROGRAMS <= len(programs) <= MOST_PROGRAMS:
            raise BadCrew("no tuple of two to four programs")
        for which, program in enumerate(programs):
            check_program(program, which)
        if _count_standings(programs) > MOST_STANDINGS:
            raise TooMany(MOST_STANDINGS)
        self._programs = programs

    @property
    def programs(self):
        """The tuple of the programs, which a row tells by their indexes."""
        return self._programs

    def __len__(self):
        return len(self._programs)

    def __eq__(self, other):
        return isinstance(other, Crew) and self._programs == other._programs


def _count_standings(programs):
    """Return how many standings there are, barred or not."""
    many = 1
    for program in programs:
        many = many * (len(program) + 1)
    return many


def standing_of(crew, row):
    """Return how many steps each program has done behind a row."""
    return standings_along(open_standings(crew.programs), row)[-1]


def stuck_standings(crew):
    """List, ascending, the standings behind rows that are stuck."""
    return caught_standings(open_standings(crew.programs))


def least_stuck(crew):
    """Return the least of the shortest rows that are stuck, None if there is none."""
    return least_caught(open_standings(crew.programs))


def count_rows(crew):
    """Return how many rows come to the end of all programs."""
    return count_done(open_standings(crew.programs))


def count_stuck_rows(crew):
    """Return how many rows are stuck."""
    return count_caught(open_standings(crew.programs))
