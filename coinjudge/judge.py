"""A judge: a row that grows and shrinks at its end, and the verdict on it."""

from coinjudge.errors import NoRow
from coinjudge.rows import good_row
from coinjudge.trials import judged


class Judge:
    """Keeps a row, which has 1 alone at first."""

    def __init__(self):
        self._coins = [1]

    def row(self):
        """Give back a new list, the row as it stands."""
        return list(self._coins)

    def more(self, coin):
        """Put the coin behind the last one."""
        self._coins = good_row(self._coins + [coin])

    def fewer(self):
        """Take the last coin off and give it back."""
        if len(self._coins) == 1:
            raise NoRow("the only coin of a row is not taken off")
        return self._coins.pop()

    def verdict(self):
        """Give back the verdict on the row as it stands."""
        return judged(self._coins)
