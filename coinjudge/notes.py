"""Notes: rows written and read, ways shown, rows told."""

from coinjudge.errors import NoText
from coinjudge.rows import good_row
from coinjudge.trials import judged
from coinjudge.ways import first_way

FIGURES = "0123456789"
# The greatest coin, 10 ** 60, has as many figures.
MOST_FIGURES = 61

PART_FIGURES = 60
PART = 10 ** 60


def written(coins):
    """Give back the row as a text."""
    return " ".join([str(coin) for coin in coins])


def read(line):
    """Give back the row that the text writes."""
    parts = line.split(" ")
    for part in parts:
        if not _is_number(part):
            raise NoText("a row is written as numbers with one blank between two")
    return good_row([int(part) for part in parts])


def shown(coins, way):
    """Give back the way as a text, from the greatest coin down."""
    shares = []
    for at in range(len(coins) - 1, -1, -1):
        if way[at] > 0:
            shares.append(f"{_figures(way[at])} of {coins[at]}")
    if not shares:
        return "nothing"
    return " and ".join(shares)


def told(coins):
    """Give back as a text whether the row is right, and if not, where."""
    verdict = judged(coins)
    if verdict is None:
        return "right for every amount"
    amount, way = verdict
    better = shown(coins, way)
    first = shown(coins, first_way(coins, amount))
    return f"{amount}: {better}, not {first}"


def _is_number(part):
    if len(part) < 1 or len(part) > MOST_FIGURES or part[0] == "0":
        return False
    return all([sign in FIGURES for sign in part])


# Python refuses to write a number of some thousand figures in one go, but no
# point limits how many pieces a way has.
def _figures(number):
    parts = []
    rest = number
    while rest >= PART:
        parts.append(str(rest % PART).zfill(PART_FIGURES))
        rest = rest // PART
    parts.append(str(rest))
    parts.reverse()
    return "".join(parts)
