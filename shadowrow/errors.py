"""The errors by which this package refuses what it is handed."""


class SetsError(ValueError):
    """What every refusal of this package is."""


class BadSet(SetsError):
    """No set was handed in where one is asked for."""


class BadSize(SetsError):
    """No size was handed in where one is asked for."""


class BadNumber(SetsError):
    """No number that fits was handed in where one is asked for."""


class BadRow(SetsError):
    """No row that fits was handed in where one is asked for."""
