"""Ways: how many pieces there are of each coin of a row."""

from coinjudge.errors import NoAmount, NoWay

# This is 10 ** 80; LANGUAGE.md (L27) allows no exponent above 64.
MOST_AMOUNT = 10 ** 40 * 10 ** 40


def worth(coins, way):
    """Give back the sum of the values of all pieces of the way."""
    if len(way) != len(coins):
        raise NoWay("a way has one number for each coin of its row")
    total = 0
    for coin, many in zip(coins, way):
        if many < 0:
            raise NoWay("a way has no number below nought")
        total += coin * many
    return total


def pieces(way):
    """Give back how many pieces the way has in all."""
    return sum(way)


def check_amount(amount):
    """Refuse an amount that is not from nought to 10 ** 80."""
    # The message does not show the amount: Python refuses to write numbers
    # of some thousand digits, and that refusal would hide NoAmount.
    if amount < 0 or amount > MOST_AMOUNT:
        raise NoAmount("an amount is from nought to 10 ** 80")


def first_way(coins, amount):
    """Give back the way in which the shop gives the amount."""
    check_amount(amount)
    way = [0] * len(coins)
    due = amount
    for at in range(len(coins) - 1, -1, -1):
        way[at] = due // coins[at]
        due = due - way[at] * coins[at]
    return way
