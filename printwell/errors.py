"""The refusals of printwell: each is a PrintError, and none lies below another."""


class PrintError(ValueError):
    pass


class BadBits(PrintError):
    pass


class BadText(PrintError):
    def __init__(self, place):
        PrintError.__init__(self, f"no expression goes on like this at place {place}")
        self.place = place
