"""The errors of the package: one class for each kind of failure, all below WakeError."""


class WakeError(ValueError):
    """What every error of the package is."""


class NoProgram(WakeError):
    """For what is no program."""


class NoInputs(WakeError):
    """For what are no inputs."""


class NoPlan(WakeError):
    """For what is no plan of the program."""


class NoOrder(WakeError):
    """For what is no list of different units of the program."""


class NoAccess(WakeError):
    """For what is no access of the program, or not one of the needed kind."""


class NoUnit(WakeError):
    """For what is no unit of the program."""


class NoFunction(WakeError):
    """For what is no function of the program."""


class NoPrices(WakeError):
    """For what are no prices."""


class NoPlaces(WakeError):
    """For what is no ascending list of different places, the end apart."""


class NoNumber(WakeError):
    """For what is no number of the kind that is asked for."""


class NoStarts(WakeError):
    """For what are no starts, or no callers."""


class NoState(WakeError):
    """For what is no status, no word or no state."""


class NoMove(WakeError):
    """For a move, or a schedule of moves, that there is not."""


class NoRoom(WakeError):
    """For inputs or calls beyond their greatest number."""


class TooLong(WakeError):
    """For an answer that needs more inputs or calls than are returned."""


class TooMany(WakeError):
    """For a search that comes to more than its bound."""
