"""The refusals of Handrack; each of them is a RackError."""


class RackError(ValueError):
    pass


class NoHook(RackError):
    pass
