"""The refusals of the program, one class for each."""


class MarkError(ValueError):
    pass


class BadWeb(MarkError):
    pass


class BadSet(MarkError):
    pass


class BadSteps(MarkError):
    pass


class BadTree(MarkError):
    pass


class BadText(MarkError):
    pass
