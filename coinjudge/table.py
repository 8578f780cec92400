"""The table of the fewest pieces of small amounts."""

from coinjudge.errors import TooGreat
from coinjudge.ways import check_amount

MOST_TABLE = 400


def fewest(coins, amount):
    """Give back a way of the amount with as few pieces as any."""
    check_amount(amount)
    if amount > MOST_TABLE:
        raise TooGreat("the table of fewest pieces ends at 400")
    counts = _least_counts(coins, amount)
    way = [0] * len(coins)
    due = amount
    for at in range(len(coins) - 1, -1, -1):
        # A coin is in some fewest way just where the rest needs one piece less.
        while coins[at] <= due and counts[due - coins[at]] == counts[due] - 1:
            way[at] += 1
            due = due - coins[at]
    return way


def _least_counts(coins, amount):
    """List how few pieces each amount from nought to the told one can have."""
    counts = [0]
    for due in range(1, amount + 1):
        counts.append(1 + min([counts[due - coin] for coin in coins if coin <= due]))
    return counts
