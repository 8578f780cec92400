"""Rows: the values of the coins of a shop."""

from coinjudge.errors import NoRow

MOST = 12
GREATEST = 10 ** 60


# No message here shows a number that was handed in: Python refuses to write
# numbers of some thousand digits, and that refusal would hide NoRow.
def good_row(coins):
    """Give back a new list of the same numbers, where they are a row."""
    if len(coins) < 1 or len(coins) > MOST:
        raise NoRow("a row has one to twelve coins")
    if coins[0] != 1:
        raise NoRow("the first coin of a row is 1")
    for at in range(1, len(coins)):
        if coins[at] <= coins[at - 1]:
            raise NoRow("each coin of a row is greater than the one ahead of it")
    # The coins rise, so none is above the last one.
    if coins[-1] > GREATEST:
        raise NoRow("no coin of a row is above 10 ** 60")
    return list(coins)
