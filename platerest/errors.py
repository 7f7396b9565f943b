"""The refusals of the program, each straight under PlateError."""


class PlateError(ValueError):
    """Whatever the program refuses."""


class NoWhole(PlateError):
    """What is handed in is no whole number, or nought where nought can't stand."""


class NoFraction(PlateError):
    """What is handed in is no fraction, or nought where nought can't stand."""


class NoRows(PlateError):
    """What is handed in is no rows, or no rights of the rows."""


class NoPlate(PlateError):
    """What is handed in is no plate."""


class NoMotions(PlateError):
    """What is handed in is no motions, or such as don't keep the holding."""


class NoLoads(PlateError):
    """What is handed in is no loads."""


class NoHolding(PlateError):
    """What is handed in is no holding."""


class NoWays(PlateError):
    """What is handed in is no rising tuple of ways."""


class NoWay(PlateError):
    """What is handed in is no way that can stand there."""


class NoPiece(PlateError):
    """What is handed in is no number of a piece."""


class NoStresses(PlateError):
    """What is handed in is no stresses of the plate."""


class NoBalance(PlateError):
    """The stresses are not balanced."""


class NoRest(PlateError):
    """There is no rest, or what is handed in is none."""


class NoRounds(PlateError):
    """What is handed in is no number of rounds."""


class NoFrame(PlateError):
    """What is handed in is no frame."""


class NoLot(PlateError):
    """What is handed in is no lot of pieces."""


class NoInner(PlateError):
    """The inner ways are not put in one way alone."""


class NoTurning(PlateError):
    """What is handed in is no turning of the plate."""


class NoFirm(PlateError):
    """The plate is not firm with the held ways."""


class NoThick(PlateError):
    """What is handed in is no thickness."""


class NoDeed(PlateError):
    """No deed stands."""


class NoDeeds(PlateError):
    """What is handed in is no deeds."""


class NotHeld(PlateError):
    """The way is not held."""


class NoLine(PlateError):
    """What is said is no line of the desk."""


class TooMany(PlateError):
    """There would be more of something than a plate may have."""

    def __init__(self, many, most):
        PlateError.__init__(self, f"{many}, where {most} are the most")
        self.many = many
        self.most = most


class NoText(PlateError):
    """What is read isn't written as it has to be; row tells where."""

    def __init__(self, row):
        PlateError.__init__(self, f"not so written, row {row}")
        self.row = row
