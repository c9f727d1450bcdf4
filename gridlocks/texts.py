"""Texts of pairs: two lines of words, a word for each step."""

from gridlocks.errors import InvalidText
from gridlocks.pairs import Pair
from gridlocks.programs import MOST_STEPS, can_follow, held_behind

NAMES = ("one", "other")
STEPS = {
    ".": ("work",),
    "+0": ("take", 0),
    "+1": ("take", 1),
    "+2": ("take", 2),
    "+3": ("take", 3),
    "-0": ("leave", 0),
    "-1": ("leave", 1),
    "-2": ("leave", 2),
    "-3": ("leave", 3),
}


def write(pair):
    """Return the text of a pair."""
    return "\n".join([_line(NAMES[0], pair.one), _line(NAMES[1], pair.other)])


def _line(name, program):
    """Return the line of a program."""
    words = {step: word for word, step in STEPS.items()}
    return " ".join([name, *[words[step] for step in program]])


def read(text):
    """Return the pair of a text."""
    lines = text.split("\n")
    # A second line that is missing is at fault just as one without words.
    one = _program(lines[0], 0)
    other = _program(lines[1] if len(lines) > 1 else "", 1)
    if len(lines) > 2:
        raise InvalidText(3, 1)
    return Pair(one, other)


def _program(line, which):
    """Return the program of a line, which is that of the program 0 or 1."""
    # Only the space divides words: split() would take other blanks for some.
    words = [word for word in line.split(" ") if word]
    if words[:1] != [NAMES[which]]:
        raise InvalidText(which + 1, 1)
    held = ()
    for number, word in enumerate(words[1:], start=1):
        if number > MOST_STEPS or word not in STEPS or not can_follow(held, STEPS[word]):
            raise InvalidText(which + 1, number + 1)
        held = held_behind(held, STEPS[word])
    if held:
        raise InvalidText(which + 1, len(words) + 1)
    return tuple([STEPS[word] for word in words[1:]])
