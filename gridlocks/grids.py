"""The grid of some programs: its open standings, where each step leads, and all ways through it.

A standing is a tuple of how many steps each program has done, a way a tuple of programs: which does
the next step. The places of a pair are standings of its two programs, the rows of a crew are ways.
"""

from gridlocks.errors import BadWay, Unfinished
from gridlocks.programs import all_held, is_number


def open_places(pair):
    """Return the grid of a pair."""
    return open_standings((pair.one, pair.other))


def open_standings(programs):
    """Return the dict of all standings that are not barred, ascending, each with its moves.

    A move is a tuple: a program whose next step can be done there, and the standing behind it.
    """
    found = {(): ()}
    for program in programs:
        found = joined_by(found, program)
    return {standing: moves_from(found, standing) for standing in found}


def joined_by(found, program):
    """Return the dict of the open standings that a further program makes of those found.

    With each standing stands the tuple of the locks that are held then.
    """
    columns = all_held(program)
    return {
        (*standing, many): (*held, *locks)
        for standing, held in found.items()
        for many, locks in enumerate(columns)
        if not share_lock(held, locks)
    }


def share_lock(held, locks):
    """Tell whether some lock is among both."""
    return any([lock in locks for lock in held])


def step_to(standing, which):
    """Return the standing behind one step of a program."""
    return (*standing[:which], standing[which] + 1, *standing[which + 1:])


def moves_from(found, standing):
    """List, ascending, the moves from a standing to standings that are found open."""
    moves = [(which, step_to(standing, which)) for which in range(len(standing))]
    # A standing beyond a program's end is none of the grid, so it is not found either.
    return [(which, ahead) for which, ahead in moves if ahead in found]


def steps_from(grid, standing):
    """List, ascending, the programs whose next step can be done at a standing."""
    return [which for which, ahead in grid[standing]]


# A graph is the grid itself, or another dict of nodes, each with its moves to others. Each node
# stands in it behind all those from which a move leads to it, as the ascending standings do, and
# the first one is the node at which all ways begin.


def start_of(graph):
    """Return the node at which all ways begin; in the grid, no step is done there."""
    return list(graph)[0]


def end_of(grid):
    """Return the standing at which all programs have done all steps."""
    # Nothing is held there, so it is not barred, and of the ascending ones it is the last.
    return list(grid)[-1]


def standings_along(grid, way):
    """List the standings of a way, the first one at its beginning."""
    if not isinstance(way, tuple):
        raise BadWay(None)
    found = [start_of(grid)]
    last = len(found[0]) - 1
    for index, which in enumerate(way):
        if not is_number(which, last) or which not in steps_from(grid, found[-1]):
            raise BadWay(index)
        found.append(step_to(found[-1], which))
    return found


def standings_to_end(grid, way):
    """List the standings of a way that comes to the end."""
    found = standings_along(grid, way)
    if found[-1] != end_of(grid):
        raise Unfinished("the way does not come to the end")
    return found


def least_ways(graph):
    """Return a dict of the least way to each node to which some way comes."""
    least = {start_of(graph): ()}
    for node, moves in graph.items():
        if node in least:
            for which, ahead in moves:
                way = (*least[node], which)
                least[ahead] = min(way, least.get(ahead, way))
    return least


def many_ways(graph):
    """Return a dict of how many ways come to each node to which some way comes."""
    many = {start_of(graph): 1}
    for node, moves in graph.items():
        if node in many:
            for which, ahead in moves:
                many[ahead] = many.get(ahead, 0) + many[node]
    return many


# What follows asks a grid, or one that lacks some of its moves, but none of its standings.


def count_done(grid):
    """Return how many ways come to the end."""
    # Running one program behind the other always comes there, so the key is always found.
    return many_ways(grid)[end_of(grid)]


def caught_standings(grid):
    """List, ascending, the standings at which some way gets stuck."""
    end = end_of(grid)
    return sorted([standing for standing in many_ways(grid) if standing != end and not grid[standing]])


def least_caught(grid):
    """Return the least of the shortest ways that get stuck, None if there is none."""
    least = least_ways(grid)
    found = [least[standing] for standing in caught_standings(grid)]
    return min(found, key=lambda way: (len(way), way), default=None)


def count_caught(grid):
    """Return how many ways get stuck."""
    many = many_ways(grid)
    return sum([many[standing] for standing in caught_standings(grid)])


def saved_standings(grid):
    """Return a dict whose keys are all open standings from which some way comes to the end."""
    saved = {end_of(grid): True}
    for standing in reversed(list(grid)):
        if any([ahead in saved for which, ahead in grid[standing]]):
            saved[standing] = True
    return saved
