"""The errors of the package, one class for each kind of refusal."""


class RightError(ValueError):
    """All errors that the package raises."""


class BadState(RightError):
    """What is no state; `part` tells what of it does not fit."""

    def __init__(self, part):
        super().__init__("this is no state")
        self.part = part


class BadFrame(RightError):
    """What is no frame; `part` tells what of it does not fit."""

    def __init__(self, part):
        super().__init__("this is no frame")
        self.part = part


class BadPolicy(RightError):
    """What is no policy; `number` is that of the rule that does not fit."""

    def __init__(self, number):
        super().__init__("this is no policy, or no rule of one")
        self.number = number


class BadRight(RightError):
    """What is no right between the parties."""


class BadParty(RightError):
    """What is no party; `name` is what was given."""

    def __init__(self, name):
        super().__init__("this is no such party")
        self.name = name


class BadDeed(RightError):
    """Deeds that cannot be done; `place` is that of the first such one."""

    def __init__(self, place):
        super().__init__("this is no deed that can be done here")
        self.place = place


class BadNumber(RightError):
    """What is no number of the kind that is asked for."""


class BadText(RightError):
    """A text that cannot be read; `line` and `column` tell where."""

    def __init__(self, line, column):
        super().__init__("the text does not fit here")
        self.line = line
        self.column = column


class NeverComes(RightError):
    """A right that never comes up."""


class NeverDone(RightError):
    """Deeds that no state allows."""


class TooLarge(RightError):
    """What is too large to be decided."""


class NothingDone(RightError):
    """Nothing is there that could be undone."""
