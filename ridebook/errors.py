"""The refusals of the program, all under one class."""


class RideError(ValueError):
    pass


class NoRide(RideError):
    pass


class NoStop(RideError):
    pass


class NoLine(RideError):
    pass


class NoWay(RideError):
    pass
