"""The refusals: one class for each, all below PathError, none below another."""


class PathError(ValueError):
    pass


class BadRoute(PathError):
    pass


class BadRule(PathError):
    pass


class NoNeighbour(PathError):
    pass


class NoLine(PathError):
    pass
