"""Sample programs and pairs, and the slow way to judge them: trying all ways one by one."""

import itertools

from gridlocks.pairs import Pair

WORK = ("work",)


def short_programs():
    """All programs of at most four steps over two locks."""
    steps = [WORK] + [(verb, lock) for verb in ("take", "leave") for lock in (0, 1)]
    for size in range(5):
        for program in itertools.product(steps, repeat=size):
            if is_program(program):
                yield program


def tangled_programs():
    """All programs that take each of three locks once, and do nothing else."""
    steps = [(verb, lock) for verb in ("take", "leave") for lock in (0, 1, 2)]
    return [program for program in itertools.permutations(steps) if is_program(program)]


def is_program(program):
    held = set()
    for step in program:
        if step[0] == "take":
            if step[1] in held:
                return False
            held.add(step[1])
        elif step[0] == "leave":
            if step[1] not in held:
                return False
            held.remove(step[1])
    return not held


def busy_programs():
    """All programs of six steps that take and leave two locks, and do not work."""
    steps = [(verb, lock) for verb in ("take", "leave") for lock in (0, 1)]
    return [program for program in itertools.product(steps, repeat=6) if is_program(program)]


def sample_pairs():
    found = []
    for programs, step in ((list(short_programs()), 2), (tangled_programs(), 7), (busy_programs(), 3)):
        found.extend(list(itertools.product(programs, programs))[::step])
    return [Pair(one, other) for one, other in found]


def held(program, many):
    locks = set()
    for step in program[:many]:
        if step[0] == "take":
            locks.add(step[1])
        elif step[0] == "leave":
            locks.remove(step[1])
    return locks


def judge(pair):
    """Try all ways one by one: what each of them, and of the places they come to, is."""
    limits = (len(pair.one), len(pair.other))
    free = {
        place: not held(pair.one, place[0]) & held(pair.other, place[1])
        for place in itertools.product(range(limits[0] + 1), range(limits[1] + 1))
    }
    done, caught, seen, comes = [], [], {}, {}

    def go(way, place):
        """Go on with a way; tell whether some way from here comes to the end."""
        seen[way] = place
        i, j = place
        turns = [k for k, ahead in enumerate([(i + 1, j), (i, j + 1)]) if free.get(ahead)]
        saved = False
        for k in turns:
            saved = go(way + (k,), (i + 1 - k, j + k)) or saved
        if place == limits:
            done.append(way)
            saved = True
        elif not turns:
            caught.append(way)
        comes[place] = saved
        return saved

    go((), (0, 0))
    return free, done, caught, seen, comes


def takings(pair, way):
    """For both programs and each lock, the list of the steps of a way that take it."""
    times = [[[] for _ in range(4)] for _ in range(2)]
    done = [0, 0]
    for time, which in enumerate(way):
        step = (pair.one, pair.other)[which][done[which]]
        done[which] += 1
        if step[0] == "take":
            times[which][step[1]].append(time)
    return times


def firsts(pair, way):
    """Which program takes first, for each lock and each two times that both take it."""
    ones, others = takings(pair, way)
    return tuple(
        0 if mine < theirs else 1
        for lock in range(4) for mine in ones[lock] for theirs in others[lock]
    )
