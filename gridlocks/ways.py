"""Ways through the grid of a pair: where they come, and where they get stuck."""

from gridlocks.errors import BadPlace
from gridlocks.grids import (
    caught_standings, count_caught, count_done, end_of, least_caught, many_ways, open_places,
    saved_standings, standings_along, steps_from,
)
from gridlocks.programs import is_number


def is_barred(pair, place):
    """Tell whether both programs hold the same lock at a place."""
    if not _is_place(pair, place):
        raise BadPlace("no place of the grid")
    return place not in open_places(pair)


def _is_place(pair, value):
    """Tell whether a value is a place of the grid."""
    if not isinstance(value, tuple) or len(value) != 2:
        return False
    return is_number(value[0], len(pair.one)) and is_number(value[1], len(pair.other))


def places(pair, way):
    """List the places of a way, the first one at its beginning."""
    return standings_along(open_places(pair), way)


def word(pair, way):
    """Tell how a way stands: done, stuck, sure or free."""
    return word_at(pair, places(pair, way)[-1])


def word_at(pair, place):
    """Tell how a way stands that is at a place."""
    grid = open_places(pair)
    if place == end_of(grid):
        return "done"
    if not steps_from(grid, place):
        return "stuck"
    return "free" if place in saved_standings(grid) else "sure"


def stuck(pair):
    """List, ascending, the places at which some way gets stuck."""
    return caught_standings(open_places(pair))


def sure(pair):
    """List, ascending, the places to which a way comes, but from which none comes to the end."""
    grid = open_places(pair)
    saved = saved_standings(grid)
    return sorted([place for place in many_ways(grid) if place not in saved])


def shortest_stuck(pair):
    """Return the least of the shortest ways that get stuck, None if there is none."""
    return least_caught(open_places(pair))


def count_ways(pair):
    """Return how many ways come to the end."""
    return count_done(open_places(pair))


def count_stuck(pair):
    """Return how many ways get stuck."""
    return count_caught(open_places(pair))
