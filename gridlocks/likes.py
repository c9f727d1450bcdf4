"""Rows of a crew that come to the end: which are as good as one program behind the other."""

from gridlocks.grids import (
    end_of, least_ways, many_ways, open_standings, standings_to_end, start_of,
)
from gridlocks.orders import all_orders, orders_with


def like_order(crew, row):
    """Return the least order that a row is as good as, None if there is none."""
    standings = standings_to_end(open_standings(crew.programs), row)
    left = all_orders(len(crew))
    for standing, which in zip(standings, row):
        left = orders_with(left, _aheads(crew.programs, standing, which))
    return left[0] if left else None


def count_like(crew):
    """Return how many rows come to the end and are as good as some order."""
    end = end_of(open_standings(crew.programs))
    many = many_ways(_judged_standings(crew))
    return sum([number for (standing, left), number in many.items() if standing == end and left])


def least_torn(crew):
    """Return the least row that comes to the end and is as good as no order, None if there is none."""
    end = end_of(open_standings(crew.programs))
    return least_ways(_judged_standings(crew)).get((end, ()))


def _judged_standings(crew):
    """Return the graph of all (standing, left): which orders a row to the standing is as good as."""
    grid = open_standings(crew.programs)
    aheads = {
        (standing, which): _aheads(crew.programs, standing, which)
        for standing, moves in grid.items()
        for which, ahead in moves
    }
    graph, newest = {}, [(start_of(grid), all_orders(len(crew)))]
    # All rows to a node are equally long, so it is among the newest ones only once.
    while newest:
        for standing, left in newest:
            graph[(standing, left)] = [
                (which, (ahead, orders_with(left, aheads[(standing, which)])))
                for which, ahead in grid[standing]
            ]
        newest = list({node: True for told in newest for which, node in graph[told]})
    return graph


def _aheads(programs, standing, which):
    """List (other, which) for each other program that has left the lock that which takes there."""
    step = programs[which][standing[which]]
    if step[0] != "take":
        return []
    return [
        (other, which)
        for other, program in enumerate(programs)
        if other != which and ("leave", step[1]) in program[:standing[other]]
    ]
