"""The refusals of the program, each with a class of its own right under RoofError."""


class RoofError(ValueError):
    pass


class NoKin(RoofError):
    pass


class NoHouse(RoofError):
    pass


class NoRoad(RoofError):
    pass


class Ring(RoofError):
    pass


class NoHold(RoofError):
    pass


class NoLetter(RoofError):
    pass


class NoStep(RoofError):
    pass


class NoText(RoofError):
    pass


class NoRow(RoofError):
    pass


class NoLog(RoofError):
    def __init__(self, number):
        RoofError.__init__(self, f"the log is not so at row {number}")
        self.number = number
