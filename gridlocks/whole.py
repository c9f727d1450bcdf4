"""Ways that come to the end: whether each is as good as one program behind the other."""

from gridlocks.grids import end_of, least_ways, many_ways, open_places, standings_to_end
from gridlocks.pairs import blocks

# Leaders tell which programs have had a lock first: 0 for none of them, 1 for the program 0, 2 for
# the program 1, and their sum for both.
BOTH = 3


def sides(pair, way):
    """Return the tuple that tells for each block which program has its lock first by a way."""
    road = standings_to_end(open_places(pair), way)
    ones, others = [i for i, _ in road], [j for _, j in road]
    return tuple([
        0 if ones.index(first) < others.index(begin) else 1
        for lock, first, last, begin, end in blocks(pair)
    ])


def is_whole(pair, way):
    """Tell whether one program has the lock first for all blocks by a way."""
    found = sides(pair, way)
    return 0 not in found or 1 not in found


def count_whole(pair):
    """Return how many ways that come to the end are whole."""
    many, end = many_ways(_led_places(pair)), end_of(open_places(pair))
    return sum([many.get((end, leaders), 0) for leaders in range(BOTH)])


def torn(pair):
    """Return the least way that comes to the end and is not whole, None if there is none."""
    least = least_ways(_led_places(pair))
    return least.get((end_of(open_places(pair)), BOTH))


def _led_places(pair):
    """Return the graph of all (place, leaders): who has had a lock first by a way to the place."""
    grid, barred = open_places(pair), blocks(pair)
    known = {place: _leaders_at(barred, place) for place in grid}
    return {
        (place, leaders): [(which, (ahead, leaders | known[ahead])) for which, ahead in moves]
        for place, moves in grid.items()
        for leaders in range(BOTH + 1)
    }


def _leaders_at(barred, place):
    """Return which programs have taken the lock of some block where the other one has not yet."""
    i, j = place
    taken = [(i >= first, j >= begin) for lock, first, last, begin, end in barred]
    return (1 if (True, False) in taken else 0) + (2 if (False, True) in taken else 0)
