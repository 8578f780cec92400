"""The errors by which the package refuses what it is handed."""


class CoinError(ValueError):
    """Any refusal."""


class NoRow(CoinError):
    """A list of numbers is no row of coins."""


class NoWay(CoinError):
    """A list of numbers is no way over a row, or there is no such trial."""


class NoAmount(CoinError):
    """An amount is below nought or too great to be given at all."""


class TooGreat(CoinError):
    """An amount is too great for the table of fewest pieces."""


class NoText(CoinError):
    """A text does not write a list of numbers."""
