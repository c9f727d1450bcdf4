"""The grid of a pair: its open places, where each step leads, and all ways through it."""

from gridlocks.programs import all_held

START = (0, 0)


def end_of(pair):
    """Return the place at which both programs have done all steps."""
    return len(pair.one), len(pair.other)


def open_places(pair):
    """Return the dict of all places that are not barred, ascending, each with its moves.

    A move is a tuple: a program whose next step can be done there, and the place behind it.
    """
    columns = all_held(pair.other)
    found = {
        (i, j): True
        for i, held in enumerate(all_held(pair.one))
        for j, locks in enumerate(columns)
        if not share_lock(held, locks)
    }
    return {place: moves_from(found, place) for place in found}


def share_lock(held, locks):
    """Tell whether some lock is among both."""
    return any([lock in locks for lock in held])


def step_to(place, which):
    """Return the place behind one step of the program 0 or 1."""
    i, j = place
    return (i + 1, j) if which == 0 else (i, j + 1)


def moves_from(found, place):
    """List, ascending, the moves from a place to places that are found open."""
    moves = [(0, step_to(place, 0)), (1, step_to(place, 1))]
    # A place beyond a program's end is none of the grid, so it is not found either.
    return [(which, ahead) for which, ahead in moves if ahead in found]


def steps_from(grid, place):
    """List, ascending, the programs whose next step can be done at a place."""
    return [which for which, ahead in grid[place]]


# A graph is the grid itself, or another dict of nodes, each with its moves to others. Each node
# stands in it behind all those from which a move leads to it, as the ascending places do.


def least_ways(graph, start=START):
    """Return a dict of the least way to each node to which some way comes."""
    least = {start: ()}
    for node, moves in graph.items():
        if node in least:
            for which, ahead in moves:
                way = (*least[node], which)
                least[ahead] = min(way, least.get(ahead, way))
    return least


def many_ways(graph, start=START):
    """Return a dict of how many ways come to each node to which some way comes."""
    many = {start: 1}
    for node, moves in graph.items():
        if node in many:
            for which, ahead in moves:
                many[ahead] = many.get(ahead, 0) + many[node]
    return many


def saved_places(grid, end):
    """Return a dict whose keys are all open places from which some way comes to the end."""
    saved = {end: True}
    for place in reversed(list(grid)):
        if any([ahead in saved for which, ahead in grid[place]]):
            saved[place] = True
    return saved
