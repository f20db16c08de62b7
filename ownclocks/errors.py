"""The refusals of the program."""


class WorksError(ValueError):
    pass


class NoRow(WorksError):
    pass


class NoStation(WorksError):
    pass


class NoMeasure(WorksError):
    pass
