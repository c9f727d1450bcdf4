"""Mending: the fewest exchanges of neighbouring takings behind which no way gets stuck."""

from gridlocks.errors import BadSize
from gridlocks.pairs import Pair
from gridlocks.programs import is_number
from gridlocks.ways import stuck

MOST_EXCHANGES = 12


def mends(pair, most):
    """Return the least list of the fewest exchanges, at most so many, None if there is none."""
    if not is_number(most, MOST_EXCHANGES):
        raise BadSize("no number of exchanges")
    start, exchanges = (pair.one, pair.other), _exchanges(pair)
    rows, newest = {start: []}, [start]
    for _ in range(most + 1):
        # The rows to the newest programs are equally long, and stand here ascending.
        for programs in newest:
            if not stuck(Pair(programs[0], programs[1])):
                return rows[programs]
        newest = _next_programs(rows, newest, exchanges)
    return None


def _exchanges(pair):
    """List, ascending, the exchanges that a pair allows."""
    # They stay the same behind any exchange: behind it, too, both of its steps take.
    return [
        (which, index)
        for which, program in enumerate((pair.one, pair.other))
        for index in range(len(program) - 1)
        if program[index][0] == "take" and program[index + 1][0] == "take"
    ]


def _next_programs(rows, newest, exchanges):
    """List the programs first found one exchange behind the newest, and add the least row to each."""
    found = []
    for programs in newest:
        for exchange in exchanges:
            made = _exchanged(programs, exchange)
            if made not in rows:
                rows[made] = [*rows[programs], exchange]
                found.append(made)
    return found


def _exchanged(programs, exchange):
    """Return both programs behind an exchange."""
    which, index = exchange
    steps = list(programs[which])
    steps[index], steps[index + 1] = steps[index + 1], steps[index]
    return (tuple(steps), programs[1]) if which == 0 else (programs[0], tuple(steps))
