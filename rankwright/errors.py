"""The errors: three families, and the classes that are raised."""


class Invalid(ValueError):
    """A value is not of the form that it should have."""


class BadGround(Invalid):
    """No set of at most ten elements."""

    def __init__(self, reason):
        self.reason = reason


class BadSets(Invalid):
    """No tuple of sets, or no table, as it should be."""

    def __init__(self, reason):
        self.reason = reason


class BadSet(Invalid):
    """No set of the kind that is asked for."""

    def __init__(self, reason):
        self.reason = reason


class BadTable(Invalid):
    """A table that tells no matroid, with its fault."""

    def __init__(self, fault):
        self.fault = fault


class BadMatroid(Invalid):
    """No Matroid."""

    def __init__(self, reason):
        self.reason = reason


class BadMatrix(Invalid):
    """No matrix for the ground."""

    def __init__(self, reason):
        self.reason = reason


class BadGraph(Invalid):
    """No graph for the ground."""

    def __init__(self, reason):
        self.reason = reason


class BadFamily(Invalid):
    """No family of sets within the ground."""

    def __init__(self, reason):
        self.reason = reason


class BadElement(Invalid):
    """No element of the kind that is asked for."""

    def __init__(self, reason):
        self.reason = reason


class BadText(Invalid):
    """A text with a wrong line, and the number of that line."""

    def __init__(self, line):
        self.line = line


class BadStep(Invalid):
    """A log with a wrong step, and the place of that step."""

    def __init__(self, place):
        self.place = place


class BadFlats(Invalid):
    """No ascending tuple of different flats."""

    def __init__(self, reason):
        self.reason = reason


class BadName(Invalid):
    """A name that nothing has."""

    def __init__(self, reason):
        self.reason = reason


class BadPieces(Invalid):
    """Pieces that cannot be joined."""

    def __init__(self, reason):
        self.reason = reason


class BadNumber(Invalid):
    """No number of the kind that is asked for."""

    def __init__(self, reason):
        self.reason = reason


class BadChange(Invalid):
    """No pair of an element and flats."""

    def __init__(self, reason):
        self.reason = reason


class Refused(ArithmeticError):
    """A value has the right form, but what is asked cannot be done with it."""


class TooMany(Refused):
    """More than can be worked on, and the most that can be."""

    def __init__(self, most):
        self.most = most


class Unlike(Refused):
    """Matroids that do not fit what is asked."""

    def __init__(self, reason):
        self.reason = reason


class Loop(Refused):
    """A matroid with a loop, and the least one."""

    def __init__(self, element):
        self.element = element


class NotRelaxable(Refused):
    """A set that is not both a circuit and a hyperplane."""

    def __init__(self, reason):
        self.reason = reason


class NotFree(Refused):
    """A base that is not free."""

    def __init__(self, reason):
        self.reason = reason


class Missing(LookupError):
    """Something is asked for that is not there."""


class NothingDone(Missing):
    """No edit is left to take back."""

    def __init__(self, reason):
        self.reason = reason
