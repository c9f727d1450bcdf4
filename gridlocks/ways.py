"""Ways through the grid of a pair: where they come, and where they get stuck."""

from gridlocks.errors import BadPlace, BadWay
from gridlocks.grids import (
    START, end_of, least_ways, many_ways, open_places, saved_places, step_to, steps_from,
)
from gridlocks.programs import is_number


def is_barred(pair, place):
    """Tell whether both programs hold the same lock at a place."""
    if not _is_place(pair, place):
        raise BadPlace("no place of the grid")
    return place not in open_places(pair)


def _is_place(pair, value):
    """Tell whether a value is a place of the grid."""
    if not isinstance(value, tuple) or len(value) != 2:
        return False
    return is_number(value[0], len(pair.one)) and is_number(value[1], len(pair.other))


def places(pair, way):
    """List the places of a way, the first one at its beginning."""
    if not isinstance(way, tuple):
        raise BadWay(None)
    grid = open_places(pair)
    found = [START]
    for index, which in enumerate(way):
        if not is_number(which, 1) or which not in steps_from(grid, found[-1]):
            raise BadWay(index)
        found.append(step_to(found[-1], which))
    return found


def word(pair, way):
    """Tell how a way stands: done, stuck, sure or free."""
    return word_at(pair, places(pair, way)[-1])


def word_at(pair, place):
    """Tell how a way stands that is at a place."""
    grid, end = open_places(pair), end_of(pair)
    if place == end:
        return "done"
    if not steps_from(grid, place):
        return "stuck"
    return "free" if place in saved_places(grid, end) else "sure"


def stuck(pair):
    """List, ascending, the places at which some way gets stuck."""
    grid, end = open_places(pair), end_of(pair)
    return sorted([
        place for place in many_ways(grid) if place != end and not steps_from(grid, place)
    ])


def sure(pair):
    """List, ascending, the places to which a way comes, but from which none comes to the end."""
    grid = open_places(pair)
    saved = saved_places(grid, end_of(pair))
    return sorted([place for place in many_ways(grid) if place not in saved])


def shortest_stuck(pair):
    """Return the least of the shortest ways that get stuck, None if there is none."""
    least = least_ways(open_places(pair))
    found = [least[place] for place in stuck(pair)]
    return min(found, key=lambda way: (len(way), way), default=None)


def count_ways(pair):
    """Return how many ways come to the end."""
    # Running one program behind the other always comes there, so the key is always found.
    return many_ways(open_places(pair))[end_of(pair)]


def count_stuck(pair):
    """Return how many ways get stuck."""
    many = many_ways(open_places(pair))
    return sum([many[place] for place in stuck(pair)])
