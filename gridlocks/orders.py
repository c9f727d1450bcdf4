"""Orders: one of the locks by which no row of a crew is stuck, and how many programs may run at once."""

from itertools import permutations

from gridlocks.grids import caught_standings, end_of, open_standings
from gridlocks.programs import MOST_LOCK, all_held


def all_orders(many):
    """Return the tuple of all orders, ascending, of the integers from 0 on, so many of them."""
    return tuple(permutations(range(many)))


def orders_with(orders, pairs):
    """Return the tuple of those orders in which, of each pair, the first stands ahead of the second."""
    return tuple([
        order for order in orders
        if all([order.index(first) < order.index(second) for first, second in pairs])
    ])


def lock_order(crew):
    """Return the least order of all locks by which all programs take them, None if there is none."""
    pairs = [pair for program in crew.programs for pair in _takings(program)]
    found = orders_with(all_orders(MOST_LOCK + 1), pairs)
    return found[0] if found else None


def _takings(program):
    """List (held, taken) for each lock that a program takes, and each one that it holds then."""
    return [
        (lock, step[1])
        for held, step in zip(all_held(program), program)
        if step[0] == "take"
        for lock in held
    ]


def at_once(crew):
    """Return the greatest number of programs that may run at once without a row that is stuck."""
    grid = open_standings(crew.programs)
    # With one program at once, each one comes to its end, so there always is such a number.
    return max([
        most for most in range(1, len(crew) + 1) if not caught_standings(_narrowed(grid, most))
    ])


def _narrowed(grid, most):
    """Return the grid with those moves that can be done if at most so many programs run at once."""
    end = end_of(grid)
    return {
        standing: _moves_begun(standing, moves) if _count_running(standing, end) >= most else moves
        for standing, moves in grid.items()
    }


def _moves_begun(standing, moves):
    """List the moves of those programs that have begun."""
    return [(which, ahead) for which, ahead in moves if standing[which] > 0]


def _count_running(standing, end):
    """Return how many programs have done some step, but not all."""
    return len([done for done, steps in zip(standing, end) if 0 < done < steps])
