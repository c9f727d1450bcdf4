"""Programs: which values are some, and which locks they hold."""

from gridlocks.errors import BadProgram

MOST_STEPS = 12
MOST_LOCK = 3


def is_number(value, most):
    """Tell whether a value is an integer from 0 to most."""
    # Python counts True and False as integers, the document does not.
    return isinstance(value, int) and not isinstance(value, bool) and 0 <= value <= most


def is_step(value):
    """Tell whether a value is a step."""
    if value == ("work",):
        return True
    if not isinstance(value, tuple) or len(value) != 2:
        return False
    return value[0] in ("take", "leave") and is_number(value[1], MOST_LOCK)


def can_follow(held, step):
    """Tell whether a program that holds these locks may do this step next."""
    if step[0] == "take":
        return step[1] not in held
    if step[0] == "leave":
        return step[1] in held
    return True


def held_behind(held, step):
    """Return the tuple of locks held behind a step, if these are held ahead of it."""
    if step[0] == "take":
        return (*held, step[1])
    if step[0] == "leave":
        return tuple([lock for lock in held if lock != step[1]])
    return held


def check_program(program, which):
    """Raise BadProgram, under the number which, for a value that is no program."""
    if not isinstance(program, tuple) or len(program) > MOST_STEPS:
        raise BadProgram(which, None)
    held = ()
    for index, step in enumerate(program):
        if not is_step(step) or not can_follow(held, step):
            raise BadProgram(which, index)
        held = held_behind(held, step)
    if held:
        raise BadProgram(which, len(program))


def all_held(program):
    """List the tuples of locks held behind no step, the first one, and so on."""
    found = [()]
    for step in program:
        found.append(held_behind(found[-1], step))
    return found


def hold_times(program):
    """List (lock, first, last) for each time that a program holds a lock."""
    taken = {}
    found = []
    for number, step in enumerate(program, start=1):
        if step[0] == "take":
            taken[step[1]] = number
        elif step[0] == "leave":
            # Behind the leaving step the lock is free again, so the step ahead is the last.
            found.append((step[1], taken[step[1]], number - 1))
    return found
