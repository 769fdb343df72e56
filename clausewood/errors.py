"""The refusals of the program, one class for each; WoodError stands above them all."""


class WoodError(ValueError):
    pass


class NoRule(WoodError):
    pass


class Twice(WoodError):
    pass


class NoTree(WoodError):
    pass


class NoLine(WoodError):
    pass
