"""The errors that the program raises."""


class OddsError(ValueError):
    """The base class of all errors of the program."""


class BadSize(OddsError):
    """There are too few or too many of something."""


class BadKind(OddsError):
    """A place begins with none of the six words."""


class BadNumber(OddsError):
    """A value is not a short number."""


class BadChance(OddsError):
    """A chance or an amount is too small, or chances have a wrong sum."""


class BadTarget(OddsError):
    """A value is not the name of a place of the game."""


class BadStrategy(OddsError):
    """A list is no strategy of its side; `place` is the first wrong place."""

    def __init__(self, place):
        super().__init__(f"the strategy is wrong at place {place}")
        self.place = place


class BadText(OddsError):
    """A text is no written form; `line` and `column` tell where it fails."""

    def __init__(self, line, column):
        super().__init__(f"the text is wrong at line {line}, column {column}")
        self.line = line
        self.column = column


class BadMove(OddsError):
    """A move is not the number of a branch; `step` is its place in the list."""

    def __init__(self, step):
        super().__init__(f"there is no branch for move {step}")
        self.step = step


class NotARun(OddsError):
    """A list is no run; `step` is the place in it of the first wrong element."""

    def __init__(self, step):
        super().__init__(f"the list is no run at step {step}")
        self.step = step


class NotChain(OddsError):
    """A game is no chain; `place` is the first place of a side."""

    def __init__(self, place):
        super().__init__(f"a side chooses at place {place}")
        self.place = place


class NeverSo(OddsError):
    """A condition has the chance 0 at `place`."""

    def __init__(self, place):
        super().__init__(f"the condition has the chance 0 at place {place}")
        self.place = place


class NotEnding(OddsError):
    """A game does not always end."""


class NoRun(OddsError):
    """A table has no run of this name."""


class NotHere(OddsError):
    """A deed is not one for the place of its run."""


class NoBranch(OddsError):
    """A place has no branch of this number."""


class Worse(OddsError):
    """A choice leads to a place with a lesser value."""


class NotAlike(OddsError):
    """Two runs are the same one, or not at the same place."""


class NothingToUndo(OddsError):
    """No deed is in force."""


class NothingToRedo(OddsError):
    """No deed is undone."""


class BadEntry(OddsError):
    """An entry of a journal raises an error; `place` is its place there."""

    def __init__(self, place):
        super().__init__(f"the deed of entry {place} can not be done")
        self.place = place
