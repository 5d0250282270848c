"""Every refusal of the program, each of a class of its own."""


class SwapError(ValueError):
    """Any refusal."""


class NoFraction(SwapError):
    """No fraction, or a quotient by nought."""


class NoNumber(SwapError):
    """No whole number, or none that may stand here."""


class NoPoly(SwapError):
    """No polynomial, or nought where a divisor is asked for."""


class NoKind(SwapError):
    """No makers of a kind."""


class NoMaker(SwapError):
    """No number, or no name, of a maker."""


class NoTree(SwapError):
    """No tree of the kind."""


class NoRack(SwapError):
    """No rack."""


class NoThing(SwapError):
    """No thing of the rack, or of the shape."""


class NoShape(SwapError):
    """No shape."""


class NoStep(SwapError):
    """No step, or none that can be done on the rack."""


class NoTurning(SwapError):
    """No steps of a turning; at is the number of the first bad one, -1 where they are no list."""

    def __init__(self, at=None):
        super().__init__("these steps make no turning")
        self.at = at


class NoMatch(SwapError):
    """Turnings that don't fit together."""


class NoPattern(SwapError):
    """No pattern of the rack."""


class NoTrees(SwapError):
    """A rack without trees where trees are needed."""


class NotAlike(SwapError):
    """Racks that no turning joins; paper shows that there is none."""

    def __init__(self, paper=None):
        super().__init__("no turning leads from the one rack to the other")
        self.paper = paper


class TooLong(SwapError):
    """A turning that would be too long; weight is the weight of the quotient."""

    def __init__(self, weight=None):
        super().__init__("the turning would be too long")
        self.weight = weight


class TooMuch(SwapError):
    """A rack or a table that would be too great."""


class NoText(SwapError):
    """A text that writes no such thing."""


class NoName(SwapError):
    """No name, or one that leads to no such thing."""


class NoRow(SwapError):
    """No row that can be told to a desk."""
