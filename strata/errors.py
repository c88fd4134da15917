"""The refusals, one class for each."""


class StrataError(ValueError):
    pass


class NoObject(StrataError):
    pass


class BadTree(StrataError):
    pass


class BadCommit(StrataError):
    pass


class NoPath(StrataError):
    pass


class BadPack(StrataError):
    def __init__(self, line):
        self.line = line
