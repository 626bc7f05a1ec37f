"""The refusals of the program."""


class BranchError(ValueError):
    pass


class BadTree(BranchError):
    pass


class BadState(BranchError):
    pass
