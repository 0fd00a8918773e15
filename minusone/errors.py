"""What the functions of the package raise."""


class NoSeat(LookupError):
    """The world has no seat of this name."""

    def __init__(self, name):
        LookupError.__init__(self, f"no seat is called {name}")
        self.name = name


class NoLeg(LookupError):
    """The world has no such leg."""

    def __init__(self, leg):
        LookupError.__init__(self, f"no leg is {leg}")
        self.leg = leg


class NoVoice(ValueError):
    """The seat of this name does not speak."""

    def __init__(self, name):
        ValueError.__init__(self, f"the seat {name} does not speak")
        self.name = name


class NoEar(ValueError):
    """The seat of this name does not hear."""

    def __init__(self, name):
        ValueError.__init__(self, f"the seat {name} does not hear")
        self.name = name


class BadText(ValueError):
    """The text is not that of a leg of the world."""

    def __init__(self):
        ValueError.__init__(self)


class BadLine(ValueError):
    """The line of this number is wrong, or cannot stand there."""

    def __init__(self, number):
        ValueError.__init__(self, f"line {number} is wrong")
        self.number = number
