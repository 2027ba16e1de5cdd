"""The errors that the program raises."""


class HallError(ValueError):
    """The base class of all errors that the program raises."""


class BadValue(HallError):
    """Something is not a value, or not an argument of the kind that is needed."""


class BadWords(HallError):
    """A list is not the words of a value."""


class BadBlock(HallError):
    """Something is not a block, or not the index of one."""


class BadPath(HallError):
    """Something is not a path."""


class BadCommand(HallError):
    """Something is not a command."""


class OutOfRange(HallError):
    """A number is outside of what a log holds."""


class Busy(HallError):
    """A request is still open."""


class TooFew(HallError):
    """There are fewer than are needed."""


class PowerLoss(HallError):
    """A disk lost power."""


class MachineDown(HallError):
    """A machine is down."""


class Destroyed(HallError):
    """A machine is destroyed."""


class Unknown(HallError):
    """There is no such thing under this name or number."""
