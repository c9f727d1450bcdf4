"""Sample programs, pairs and crews, and the slow way to judge them: trying all ways one by one."""

import itertools

from gridlocks.crews import Crew
from gridlocks.pairs import Pair

WORK = ("work",)


def short_programs():
    """All programs of at most four steps over two locks."""
    steps = [WORK] + [(verb, lock) for verb in ("take", "leave") for lock in (0, 1)]
    for size in range(5):
        for program in itertools.product(steps, repeat=size):
            if is_program(program):
                yield program


def tangled_programs():
    """All programs that take each of three locks once, and do nothing else."""
    steps = [(verb, lock) for verb in ("take", "leave") for lock in (0, 1, 2)]
    return [program for program in itertools.permutations(steps) if is_program(program)]


def is_program(program):
    held = set()
    for step in program:
        if step[0] == "take":
            if step[1] in held:
                return False
            held.add(step[1])
        elif step[0] == "leave":
            if step[1] not in held:
                return False
            held.remove(step[1])
    return not held


def busy_programs():
    """All programs of six steps that take and leave two locks, and do not work."""
    steps = [(verb, lock) for verb in ("take", "leave") for lock in (0, 1)]
    return [program for program in itertools.product(steps, repeat=6) if is_program(program)]


def sample_pairs():
    found = []
    for programs, step in ((list(short_programs()), 2), (tangled_programs(), 7), (busy_programs(), 3)):
        found.extend(list(itertools.product(programs, programs))[::step])
    return [Pair(one, other) for one, other in found]


def held(program, many):
    locks = set()
    for step in program[:many]:
        if step[0] == "take":
            locks.add(step[1])
        elif step[0] == "leave":
            locks.remove(step[1])
    return locks


def judge(pair):
    """Try all ways one by one: what each of them, and of the places they come to, is."""
    limits = (len(pair.one), len(pair.other))
    free = {
        place: not held(pair.one, place[0]) & held(pair.other, place[1])
        for place in itertools.product(range(limits[0] + 1), range(limits[1] + 1))
    }
    done, caught, seen, comes = [], [], {}, {}

    def go(way, place):
        """Go on with a way; tell whether some way from here comes to the end."""
        seen[way] = place
        i, j = place
        turns = [k for k, ahead in enumerate([(i + 1, j), (i, j + 1)]) if free.get(ahead)]
        saved = False
        for k in turns:
            saved = go(way + (k,), (i + 1 - k, j + k)) or saved
        if place == limits:
            done.append(way)
            saved = True
        elif not turns:
            caught.append(way)
        comes[place] = saved
        return saved

    go((), (0, 0))
    return free, done, caught, seen, comes


def takings(pair, way):
    """For both programs and each lock, the list of the steps of a way that take it."""
    times = [[[] for _ in range(4)] for _ in range(2)]
    done = [0, 0]
    for time, which in enumerate(way):
        step = (pair.one, pair.other)[which][done[which]]
        done[which] += 1
        if step[0] == "take":
            times[which][step[1]].append(time)
    return times


def firsts(pair, way):
    """Which program takes first, for each lock and each two times that both take it."""
    ones, others = takings(pair, way)
    return tuple(
        0 if mine < theirs else 1
        for lock in range(4) for mine in ones[lock] for theirs in others[lock]
    )


def knotted_programs():
    """All programs that take two of three locks, in some order, and leave them in some order."""
    found = []
    for a, b in itertools.permutations(range(3), 2):
        taken = (("take", a), ("take", b))
        found.append(taken + (("leave", a), ("leave", b)))
        found.append(taken + (("leave", b), ("leave", a)))
        found.append((("take", a), ("leave", a), ("take", b), ("leave", b)))
    return found


def sample_crews():
    """Many small crews of two, three and four programs."""
    short, knotted = list(short_programs()), knotted_programs()
    nested = [program for program in knotted if program[1][0] == "take"]
    few = [program for program in short if len(program) < 4][:10]
    holds = [(("take", lock), ("leave", lock)) for lock in range(3)] + [()]
    found = list(itertools.product(short, busy_programs()))[::11]
    found += list(itertools.product(tangled_programs(), tangled_programs()))[::71]
    found += list(itertools.product(few, few, few))[::9]
    found += list(itertools.product(knotted, knotted, knotted))[::167]
    found += list(itertools.product(nested, nested, nested))[::23]
    found += list(itertools.product(knotted, holds, knotted))[::17]
    turns = [mine + next_one for mine, next_one in itertools.product(holds[:3], repeat=2)]
    found += list(itertools.product(turns, turns, turns[::3]))[::11]
    found += list(itertools.product(few, holds, few[:7], holds))[::53]
    found += list(itertools.product(turns, [()], turns, holds))[::23]
    found += list(itertools.product(turns, holds, holds, holds))[::97]
    found += list(itertools.product(nested, holds, holds[1:], nested))[::83]
    found += list(itertools.product(nested, nested, nested, holds[3:]))[::151]
    return [Crew(programs) for programs in found]


def rows_to_stop(programs, most=None):
    """Each row behind which no step can be done, with its standing, by trying all steps.

    At most so many programs run at once, if most is given.
    """
    locks = [[held(program, many) for many in range(len(program) + 1)] for program in programs]

    def can_go(done, which):
        if done[which] == len(programs[which]):
            return False
        running = [0 < many < len(program) for many, program in zip(done, programs)]
        if most is not None and done[which] == 0 and sum(running) >= most:
            return False
        step = programs[which][done[which]]
        others = [locks[k][many] for k, many in enumerate(done) if k != which]
        return step[0] != "take" or not any(step[1] in other for other in others)

    def go(row, done):
        turns = [which for which in range(len(programs)) if can_go(done, which)]
        if not turns:
            yield row, done
        for which in turns:
            yield from go(row + (which,), done[:which] + (done[which] + 1,) + done[which + 1:])

    yield from go((), (0,) * len(programs))


def judge_rows(crew, most=None):
    """The rows to the end, and a dict of those that are stuck, each with its standing."""
    end = tuple(len(program) for program in crew.programs)
    done, caught = [], {}
    for row, standing in rows_to_stop(crew.programs, most):
        if standing == end:
            done.append(row)
        else:
            caught[row] = standing
    return done, caught


def orders_like(crew, row):
    """All orders that a row is as good as, ascending, by trying each order of the programs."""
    count = [0] * len(crew)
    left, taken = [], []
    for time, which in enumerate(row):
        step = crew.programs[which][count[which]]
        count[which] += 1
        if step[0] == "leave":
            left.append((time, which, step[1]))
        elif step[0] == "take":
            taken.append((time, which, step[1]))
    aheads = {
        (mine, theirs)
        for early, mine, lock in left for late, theirs, same in taken
        if lock == same and early < late and mine != theirs
    }
    return [
        order for order in itertools.permutations(range(len(crew)))
        if not any((late, early) in aheads for early, late in itertools.combinations(order, 2))
    ]
