"""Trials: the few ways that tell whether any amount is wrong for a row."""

from coinjudge.errors import NoWay
from coinjudge.ways import first_way, pieces, worth


def trial(coins, high, low):
    """Give back the trial of two places of the row, a way."""
    if low < 0 or low >= high or high >= len(coins):
        raise NoWay("a trial is of two places of the row, low less than high")
    way = first_way(coins, coins[high] - 1)
    for at in range(low):
        way[at] = 0
    way[low] += 1
    return way


def trials(coins):
    """Give back the pairs of worth and way of all trials of the row."""
    pairs = []
    for high in range(1, len(coins)):
        for low in range(high):
            way = trial(coins, high, low)
            pairs.append((worth(coins, way), way))
    return pairs


def judged(coins):
    """Give back the least wrong amount and a better way, or None."""
    better = [pair for pair in trials(coins) if _beats_first_way(coins, pair)]
    # Among equals min gives back the first, so the order of the trials decides.
    return min(better, key=_rank, default=None)


def _beats_first_way(coins, pair):
    amount, way = pair
    return pieces(way) < pieces(first_way(coins, amount))


def _rank(pair):
    amount, way = pair
    return (amount, pieces(way))
