"""The errors of this package, each with the fields that tell where the fault is."""


class GridError(ValueError):
    """The base class of all errors of this package."""


class BadProgram(GridError):
    """A value is no program; index is None if it is no tuple of so many things at all."""

    def __init__(self, program, index):
        super().__init__(f"program {program}: fault at {index}")
        self.program = program
        self.index = index


class BadPlace(GridError):
    """A value is no place of the grid."""


class BadWay(GridError):
    """A value is no way, or no row; index is None if it is no tuple at all."""

    def __init__(self, index):
        super().__init__(f"fault at {index}")
        self.index = index


class Unfinished(GridError):
    """A way, or a row, does not come to the end."""


class BadSize(GridError):
    """A value is no number of exchanges."""


class BadTurn(GridError):
    """A value is no program, or this program's next step cannot be done."""


class InvalidText(GridError):
    """A text is not that of a pair; line and word count from 1."""

    def __init__(self, line, word):
        super().__init__(f"line {line}: fault at word {word}")
        self.line = line
        self.word = word


class BadCrew(GridError):
    """A value is no tuple of as many things as a crew has."""


class TooMany(GridError):
    """The programs of a crew have more standings than most."""

    def __init__(self, most):
        super().__init__(f"more than {most} standings")
        self.most = most
