"""Points 1, 3 and 4 of DOC.md, and the interface of coinjudge/ways.py."""

import unittest

from coinjudge import ways
from coinjudge.errors import NoAmount, NoWay
from coinjudge.ways import MOST_AMOUNT, first_way, pieces, worth

MOST_DUE = 10 ** 80
TWELVE = [10 ** at for at in range(11)] + [10 ** 60]


def given_by_the_shop(coins, amount):
    """Point 1 word by word: one piece after another."""
    way = [0] * len(coins)
    due = amount
    while due > 0:
        at = max(at for at in range(len(coins)) if coins[at] <= due)
        way[at] += 1
        due -= coins[at]
    return way


class Limits(unittest.TestCase):

    def test_the_limit(self):
        self.assertEqual(MOST_AMOUNT, 10 ** 80)
        self.assertIs(type(MOST_AMOUNT), int)

    def test_each_function_is_defined_in_ways(self):
        for name in ["worth", "pieces", "first_way"]:
            with self.subTest(name=name):
                told = getattr(ways, name)
                self.assertEqual(told.__module__, "coinjudge.ways")
                self.assertEqual(told.__qualname__, name)


class Worth(unittest.TestCase):

    def refuse(self, coins, way):
        coins_before, way_before = list(coins), list(way)
        with self.assertRaises(NoWay) as caught:
            worth(coins, way)
        self.assertIs(type(caught.exception), NoWay)
        self.assertEqual(coins, coins_before)
        self.assertEqual(way, way_before)

    def test_the_sum_of_all_values(self):
        self.assertEqual(worth([1, 5, 15, 25], [5, 0, 0, 1]), 30)
        self.assertEqual(worth([1, 5, 15, 25], [0, 0, 2, 0]), 30)
        self.assertEqual(worth([1, 5, 15, 25], [1, 2, 3, 4]), 156)
        self.assertEqual(worth([1], [7]), 7)

    def test_each_place_counts(self):
        row = [1, 5, 15, 25]
        for at in range(4):
            with self.subTest(at=at):
                way = [0] * 4
                way[at] = 3
                self.assertEqual(worth(row, way), 3 * row[at])

    def test_noughts_alone(self):
        self.assertEqual(worth([1], [0]), 0)
        self.assertEqual(worth([1, 5, 15, 25], [0, 0, 0, 0]), 0)
        self.assertEqual(worth(TWELVE, [0] * 12), 0)

    def test_very_great_counts(self):
        self.assertEqual(worth([1], [10 ** 200 + 7]), 10 ** 200 + 7)
        self.assertEqual(
            worth([1, 3, 10 ** 60], [10 ** 100 + 1, 2, 10 ** 90]),
            10 ** 150 + 10 ** 100 + 7)

    def test_it_is_an_integer(self):
        self.assertIs(type(worth([1, 5], [2, 3])), int)
        self.assertIs(type(worth([1], [0])), int)

    def test_one_number_less_than_the_row(self):
        self.refuse([1, 5, 15, 25], [5, 0, 0])
        self.refuse([1], [])
        self.refuse(TWELVE, [0] * 11)

    def test_one_number_more_than_the_row(self):
        self.refuse([1, 5, 15, 25], [5, 0, 0, 1, 0])
        self.refuse([1], [3, 0])
        self.refuse(TWELVE, [0] * 13)

    def test_no_numbers_and_many_numbers(self):
        self.refuse([1, 5, 15, 25], [])
        self.refuse([1, 5, 15, 25], [1] * 40)

    def test_a_number_below_nought_at_each_place(self):
        for at in range(4):
            for low in [-1, -2, -10 ** 90]:
                with self.subTest(at=at, low=low):
                    way = [9, 9, 9, 9]
                    way[at] = low
                    self.refuse([1, 5, 15, 25], way)
        self.refuse([1], [-1])

    def test_numbers_below_nought_that_the_others_make_up_for(self):
        self.refuse([1, 5], [-5, 1])
        self.refuse([1, 5], [5, -1])

    def test_numbers_that_python_would_not_write(self):
        self.refuse([1, 5], [0, -10 ** 5000])

    def test_both_lists_stay_as_they_were(self):
        coins, way = [1, 5, 15, 25], [5, 0, 2, 1]
        worth(coins, way)
        self.assertEqual(coins, [1, 5, 15, 25])
        self.assertEqual(way, [5, 0, 2, 1])


class Pieces(unittest.TestCase):

    def test_the_sum_of_all_counts(self):
        self.assertEqual(pieces([5, 0, 0, 1]), 6)
        self.assertEqual(pieces([0, 0, 2, 0]), 2)
        self.assertEqual(pieces([1, 2, 3, 4]), 10)
        self.assertEqual(pieces([7]), 7)
        self.assertEqual(pieces([1] * 12), 12)

    def test_noughts_alone(self):
        self.assertEqual(pieces([0]), 0)
        self.assertEqual(pieces([0] * 12), 0)

    def test_very_great_counts(self):
        self.assertEqual(pieces([10 ** 200, 1, 0, 10 ** 80]), 10 ** 200 + 10 ** 80 + 1)

    def test_it_is_an_integer(self):
        self.assertIs(type(pieces([2, 3])), int)

    def test_the_way_stays_as_it_was(self):
        way = [5, 0, 2, 1]
        pieces(way)
        self.assertEqual(way, [5, 0, 2, 1])


class FirstWay(unittest.TestCase):

    def first(self, coins, amount):
        before = list(coins)
        way = first_way(coins, amount)
        self.assertIs(type(way), list)
        self.assertEqual([type(many) for many in way], [int] * len(before))
        self.assertEqual(coins, before)
        self.assertEqual(worth(coins, way), amount)
        return way

    def refuse(self, coins, amount):
        before = list(coins)
        with self.assertRaises(NoAmount) as caught:
            first_way(coins, amount)
        self.assertIs(type(caught.exception), NoAmount)
        self.assertEqual(coins, before)

    def test_greatest_coin_first(self):
        self.assertEqual(self.first([1, 5, 15, 25], 156), [1, 1, 0, 6])
        self.assertEqual(self.first([1, 5, 15, 25], 94), [4, 0, 1, 3])
        self.assertEqual(self.first([1, 2, 5, 10, 20, 50], 88), [1, 1, 1, 1, 1, 1])

    def test_more_pieces_than_need_be(self):
        way = self.first([1, 15, 25], 30)
        self.assertEqual(way, [5, 0, 1])
        self.assertEqual(worth([1, 15, 25], [0, 2, 0]), 30)
        self.assertGreater(pieces(way), pieces([0, 2, 0]))
        self.assertEqual(self.first([1, 3, 4], 6), [2, 0, 1])

    def test_each_coin_that_goes_in_is_given(self):
        # Without the coin 5 there would be 5 of 1 beside the 25.
        self.assertEqual(self.first([1, 5, 15, 25], 30), [0, 1, 0, 1])

    def test_nought(self):
        self.assertEqual(self.first([1], 0), [0])
        self.assertEqual(self.first([1, 5, 15, 25], 0), [0, 0, 0, 0])
        self.assertEqual(self.first(TWELVE, 0), [0] * 12)

    def test_one(self):
        self.assertEqual(self.first([1], 1), [1])
        self.assertEqual(self.first([1, 5, 15, 25], 1), [1, 0, 0, 0])
        self.assertEqual(self.first(TWELVE, 1), [1] + [0] * 11)

    def test_a_coin_exactly(self):
        for coins in [[1], [1, 5, 15, 25], TWELVE]:
            for at in range(len(coins)):
                with self.subTest(coins=coins, at=at):
                    way = [0] * len(coins)
                    way[at] = 1
                    self.assertEqual(self.first(coins, coins[at]), way)

    def test_a_coin_less_one(self):
        self.assertEqual(self.first([1, 5, 15, 25], 4), [4, 0, 0, 0])
        self.assertEqual(self.first([1, 5, 15, 25], 14), [4, 2, 0, 0])
        self.assertEqual(self.first([1, 5, 15, 25], 24), [4, 1, 1, 0])
        self.assertEqual(
            self.first(TWELVE, 10 ** 60 - 1), [9] * 10 + [10 ** 50 - 1, 0])

    def test_a_coin_and_one(self):
        self.assertEqual(self.first([1, 5, 15, 25], 26), [1, 0, 0, 1])
        self.assertEqual(self.first(TWELVE, 10 ** 60 + 1), [1] + [0] * 10 + [1])

    def test_a_row_of_one_coin(self):
        self.assertEqual(self.first([1], 30), [30])
        self.assertEqual(self.first([1], MOST_DUE), [MOST_DUE])

    def test_the_greatest_amount(self):
        self.assertEqual(self.first([1, 10 ** 60], MOST_DUE), [0, 10 ** 20])
        self.assertEqual(self.first([1, 3], MOST_DUE), [1, MOST_DUE // 3])
        self.assertEqual(self.first(TWELVE, MOST_DUE), [0] * 11 + [10 ** 20])
        self.assertEqual(
            self.first(TWELVE, MOST_DUE - 1),
            [9] * 10 + [10 ** 50 - 1, 10 ** 20 - 1])

    def test_great_amounts_are_exact(self):
        coins = [1, 7, 10 ** 30 + 1, 10 ** 60 - 1]
        # 10 ** 80 is 10 ** 20 * (10 ** 60 - 1) and 10 ** 20 more.
        left = 10 ** 20
        self.assertEqual(
            self.first(coins, MOST_DUE), [left % 7, left // 7, 0, 10 ** 20])

    def test_it_is_what_the_shop_gives(self):
        rows = [[1], [1, 2], [1, 3, 4], [1, 15, 25], [1, 5, 15, 25], [1, 2, 3, 5, 8, 13, 21],
                [1, 10, 11, 12, 60], list(range(1, 13))]
        for coins in rows:
            for amount in range(130):
                with self.subTest(coins=coins, amount=amount):
                    self.assertEqual(self.first(coins, amount), given_by_the_shop(coins, amount))

    def test_amounts_below_nought(self):
        for coins in [[1], [1, 5, 15, 25], TWELVE]:
            for amount in [-1, -2, -25, -MOST_DUE, -10 ** 5000]:
                self.refuse(coins, amount)

    def test_amounts_above_the_greatest(self):
        for coins in [[1], [1, 5, 15, 25], TWELVE]:
            for amount in [MOST_DUE + 1, MOST_DUE + 2, 2 * MOST_DUE, 10 ** 81, 10 ** 5000]:
                self.refuse(coins, amount)

    def test_the_way_that_is_given_back_may_be_changed(self):
        coins = [1, 15, 25]
        for amount in [0, 30]:
            with self.subTest(amount=amount):
                before = list(first_way(coins, amount))
                way = first_way(coins, amount)
                way[0] = 77
                way.append(1)
                self.assertEqual(first_way(coins, amount), before)
                self.assertEqual(coins, [1, 15, 25])


if __name__ == "__main__":
    unittest.main()
