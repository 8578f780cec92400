"""Points 1 and 10 of DOC.md, and the interface of coinjudge/table.py."""

import inspect
import unittest

from coinjudge import table
from coinjudge.errors import NoAmount, TooGreat
from coinjudge.table import MOST_TABLE, fewest
from coinjudge.ways import first_way, pieces, worth

HIGH = 10 ** 60
MOST_DUE = 10 ** 80

ROWS = [[1], [1, 2], [1, 7], [1, 3, 4], [1, 2, 3], [1, 15, 25], [1, 2, 3, 4], [1, 5, 15, 25],
        [1, 4, 9, 16], [1, 3, 5, 7], [1, 2, 5, 10, 20], [1, 3, 6, 10, 15], [1, 3, 4, 5, 6],
        [1, 10, 11, 12], list(range(1, 13)), [1, 399, 400], [1, 400, 401], [1, 401],
        [1, 9, 10, 100, 101, 109, 110, 401, 10 ** 3, 10 ** 20, HIGH - 1, HIGH]]


def all_ways(coins, amount):
    """All ways of the amount, one by one."""
    if not coins:
        return [[]] if amount == 0 else []
    found = []
    for many in range(amount // coins[-1] + 1):
        for way in all_ways(coins[:-1], amount - many * coins[-1]):
            found.append(way + [many])
    return found


def order(way):
    """Fewest pieces first, then the most pieces from the greatest coin down."""
    return [sum(way)] + [-many for many in reversed(way)]


def best_ways(coins, most):
    """The first way in that order, of each amount up to most."""
    best = [[0] * len(coins)]
    for amount in range(1, most + 1):
        ways = []
        for at in range(len(coins)):
            if coins[at] <= amount:
                way = list(best[amount - coins[at]])
                way[at] += 1
                ways.append(way)
        best.append(min(ways, key=order))
    return best


class Interface(unittest.TestCase):

    def test_the_limit(self):
        self.assertEqual(MOST_TABLE, 400)
        self.assertIs(type(MOST_TABLE), int)

    def test_fewest_is_defined_in_table_with_its_arguments(self):
        self.assertEqual(table.fewest.__module__, "coinjudge.table")
        self.assertEqual(table.fewest.__qualname__, "fewest")
        self.assertEqual(list(inspect.signature(fewest).parameters), ["coins", "amount"])


class Fewest(unittest.TestCase):

    def way(self, coins, amount):
        before = list(coins)
        way = fewest(coins, amount)
        self.assertIs(type(way), list)
        self.assertEqual([type(many) for many in way], [int] * len(before))
        self.assertEqual(coins, before)
        self.assertEqual(worth(coins, way), amount)
        return way

    def test_fewer_pieces_than_the_first_way(self):
        self.assertEqual(self.way([1, 3, 4], 6), [0, 2, 0])
        self.assertEqual(self.way([1, 15, 25], 30), [0, 2, 0])
        self.assertEqual(self.way([1, 15, 25], 31), [1, 2, 0])
        self.assertEqual(self.way([1, 15, 25], 60), [0, 4, 0])

    def test_as_the_first_way_where_that_is_right(self):
        for amount in range(401):
            self.assertEqual(self.way([1, 2, 5, 10, 20, 50], amount), first_way([1, 2, 5, 10, 20, 50], amount))

    def test_nought(self):
        for coins in ROWS:
            self.assertEqual(self.way(coins, 0), [0] * len(coins))

    def test_one(self):
        for coins in ROWS:
            self.assertEqual(self.way(coins, 1), [1] + [0] * (len(coins) - 1))

    def test_four_hundred(self):
        self.assertEqual(self.way([1], 400), [400])
        self.assertEqual(self.way([1, 7], 400), [1, 57])
        self.assertEqual(self.way([1, 15, 25], 400), [0, 0, 16])
        self.assertEqual(self.way([1, 399], 400), [1, 1])
        self.assertEqual(self.way([1, 399, 400], 400), [0, 0, 1])
        self.assertEqual(self.way([1, 200, 399], 400), [1, 0, 1])
        self.assertEqual(self.way([1, 200, 390], 400), [0, 2, 0])
        self.assertEqual(self.way([1, 401], 400), [400, 0])

    def test_ties_have_the_most_of_the_greatest_coin(self):
        self.assertEqual(self.way([1, 2, 3, 4], 6), [0, 1, 0, 1])
        self.assertEqual(self.way([1, 2, 3], 4), [1, 0, 1])
        self.assertEqual(self.way([1, 3, 4, 5, 6], 8), [0, 1, 0, 1, 0])
        self.assertEqual(self.way([1, 2, 3, 4], 9), [1, 0, 0, 2])

    def test_ties_in_the_greatest_coin_have_the_most_of_the_next_one(self):
        # With one piece of 13 there are left 6 as 1 and 5, or as 3 and 3.
        self.assertEqual(self.way([1, 3, 5, 13], 19), [1, 0, 1, 1])
        # With no piece of 30 there are 8 as 3 and 5, or as 4 and 4.
        self.assertEqual(self.way([1, 3, 4, 5, 30], 8), [0, 1, 0, 1, 0])

    def test_more_of_the_greatest_coin_do_not_make_up_for_more_pieces(self):
        self.assertEqual(self.way([1, 5, 8], 10), [0, 2, 0])
        self.assertEqual(self.way([1, 5, 8], 15), [0, 3, 0])

    def test_all_ways_of_small_amounts_one_by_one(self):
        for coins in ROWS:
            for amount in range(21):
                ways = all_ways(coins, amount)
                self.assertEqual(self.way(coins, amount), min(ways, key=order), (coins, amount))

    def test_all_amounts_up_to_four_hundred(self):
        for coins in ROWS:
            best = best_ways(coins, 400)
            for amount in list(range(0, 400, 7)) + [100, 110, 219, 397, 398, 399, 400]:
                self.assertEqual(self.way(coins, amount), best[amount], (coins, amount))

    def test_coins_above_the_amount_have_no_pieces(self):
        coins = [1, 3, 4] + [401 + at for at in range(8)] + [HIGH]
        self.assertEqual(self.way(coins, 6), [0, 2] + [0] * 10)
        self.assertEqual(self.way(coins, 400), [0, 0, 100] + [0] * 9)
        self.assertEqual(self.way([1, HIGH], 400), [400, 0])

    def test_the_way_may_be_changed(self):
        coins = [1, 3, 4]
        for amount in [0, 6, 400]:
            before = list(fewest(coins, amount))
            way = fewest(coins, amount)
            way[0] = 77
            way.append(1)
            self.assertEqual(fewest(coins, amount), before)
            self.assertEqual(coins, [1, 3, 4])

    def test_no_more_pieces_than_the_first_way(self):
        for coins in ROWS:
            for amount in range(0, 401, 50):
                self.assertLessEqual(pieces(self.way(coins, amount)), pieces(first_way(coins, amount)))


class NoWayOfIt(unittest.TestCase):

    def refuse(self, kind, coins, amount):
        before = list(coins)
        with self.assertRaises(kind) as caught:
            fewest(coins, amount)
        self.assertIs(type(caught.exception), kind)
        self.assertEqual(coins, before)

    def test_amounts_below_nought(self):
        for coins in ROWS:
            for amount in [-1, -2, -400, -401, -MOST_DUE, -10 ** 5000]:
                self.refuse(NoAmount, coins, amount)

    def test_amounts_above_the_greatest(self):
        for coins in ROWS:
            for amount in [MOST_DUE + 1, MOST_DUE + 2, 10 ** 81, 10 ** 5000]:
                self.refuse(NoAmount, coins, amount)

    def test_amounts_above_the_table(self):
        for coins in ROWS:
            for amount in [401, 402, 1000, HIGH, MOST_DUE - 1, MOST_DUE]:
                self.refuse(TooGreat, coins, amount)


if __name__ == "__main__":
    unittest.main()
