"""The refusals, one class for each, all under TrailError."""


class TrailError(ValueError):
    pass


class NoDesk(TrailError):
    pass


class NoWork(TrailError):
    pass


class NoTrail(TrailError):
    pass


class NoLine(TrailError):
    pass
