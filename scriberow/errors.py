"""The refusals of the program."""


class RowError(ValueError):
    pass


class NoScribe(RowError):
    pass


class NoLine(RowError):
    pass
