"""What Soothcheck raises where it refuses something."""


class SoothError(ValueError):
    """Any refusal."""


class BadKind(SoothError):
    """What was handed in is no kind."""


class BadProgram(SoothError):
    """What was handed in is no program."""


class NoName(BadProgram):
    """A name or a function is not known where it stands."""


class TwiceTold(BadProgram):
    """A letter, a param, a function or a name is told twice."""


class BadCall(SoothError):
    """A function is not handed a value for each of its params."""


class BadText(SoothError):
    """A text cannot be read."""


class Refused(SoothError):
    """A function does not pass: found does not fit due, and the value shows it at the standing."""

    def __init__(self, name, found, due, value, standing):
        SoothError.__init__(self, f"{name} does not pass: what was found does not fit what was due")
        self.name = name
        self.found = found
        self.due = due
        self.value = value
        self.standing = standing
