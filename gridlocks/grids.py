"""The grid of a pair: its open places, and where each step leads."""

from gridlocks.programs import all_held

START = (0, 0)


def end_of(pair):
    """Return the place at which both programs have done all steps."""
    return len(pair.one), len(pair.other)


def open_places(pair):
    """Return a dict whose keys are all places that are not barred, ascending."""
    columns = all_held(pair.other)
    return {
        (i, j): True
        for i, held in enumerate(all_held(pair.one))
        for j, locks in enumerate(columns)
        if not share_lock(held, locks)
    }


def share_lock(held, locks):
    """Tell whether some lock is among both."""
    return any([lock in locks for lock in held])


def step_to(place, which):
    """Return the place behind one step of the program 0 or 1."""
    i, j = place
    return (i + 1, j) if which == 0 else (i, j + 1)


def steps_from(grid, place):
    """List, ascending, the programs whose next step can be done at a place."""
    # A place beyond a program's end is none of the grid, so it is not open either.
    return [which for which in (0, 1) if step_to(place, which) in grid]


def least_ways(grid):
    """Return a dict of the least way to each place to which some way comes."""
    least = {START: ()}
    # The places ascend, so each stands behind those from which a step leads to it.
    for place in grid:
        if place in least:
            for which in steps_from(grid, place):
                ahead = step_to(place, which)
                way = (*least[place], which)
                least[ahead] = min(way, least.get(ahead, way))
    return least


def many_ways(grid):
    """Return a dict of how many ways come to each place to which some way comes."""
    many = {START: 1}
    for place in grid:
        if place in many:
            for which in steps_from(grid, place):
                ahead = step_to(place, which)
                many[ahead] = many.get(ahead, 0) + many[place]
    return many


def saved_places(grid, end):
    """Return a dict whose keys are all open places from which some way comes to the end."""
    saved = {end: True}
    for place in reversed(list(grid)):
        if any([step_to(place, which) in saved for which in (0, 1)]):
            saved[place] = True
    return saved
