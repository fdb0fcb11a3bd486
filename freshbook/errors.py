"""The refusals of the program, each a class of its own under FreshError."""


class FreshError(ValueError):
    pass


class NoDesk(FreshError):
    pass


class NoThing(FreshError):
    pass


class NoClock(FreshError):
    pass


class NoAnswer(FreshError):
    pass


class Stopped(FreshError):
    pass


class NoLine(FreshError):
    pass
