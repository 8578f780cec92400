"""Points 1 and 2 of DOC.md, and the interface of coinjudge/rows.py."""

import unittest

from coinjudge import rows
from coinjudge.errors import NoRow
from coinjudge.rows import GREATEST, MOST, good_row

HIGH = 10 ** 60


class Limits(unittest.TestCase):

    def test_the_limits(self):
        self.assertEqual(MOST, 12)
        self.assertIs(type(MOST), int)
        self.assertEqual(GREATEST, 10 ** 60)
        self.assertIs(type(GREATEST), int)

    def test_good_row_is_defined_in_rows(self):
        self.assertEqual(rows.good_row.__module__, "coinjudge.rows")
        self.assertEqual(rows.good_row.__qualname__, "good_row")


class Rows(unittest.TestCase):

    def accept(self, coins):
        before = list(coins)
        given = good_row(coins)
        self.assertIs(type(given), list)
        self.assertEqual(given, before)
        self.assertEqual(coins, before)
        self.assertIsNot(given, coins)

    def test_ordinary_rows(self):
        self.accept([1, 5, 15, 25])
        self.accept([1, 2, 5, 10, 20, 50, 100, 200])
        self.accept([1, 3, 4])

    def test_a_row_of_one_coin(self):
        self.accept([1])

    def test_a_row_of_two_coins(self):
        self.accept([1, 2])
        self.accept([1, HIGH])

    def test_rows_of_eleven_and_twelve_coins(self):
        self.accept(list(range(1, 12)))
        self.accept(list(range(1, 13)))
        self.accept([10 ** (5 * at) for at in range(12)])

    def test_a_last_coin_that_is_the_greatest(self):
        self.accept([1, 5, HIGH])
        self.accept([1, HIGH - 1, HIGH])
        self.accept([10 ** at for at in range(11)] + [HIGH])

    def test_the_list_that_is_given_back_may_be_changed(self):
        coins = [1, 5, 15, 25]
        given = good_row(coins)
        given.append(30)
        given[0] = 7
        self.assertEqual(coins, [1, 5, 15, 25])
        self.assertEqual(good_row(coins), [1, 5, 15, 25])

    def test_the_list_that_was_handed_in_may_be_changed_later(self):
        coins = [1, 5, 15, 25]
        given = good_row(coins)
        coins.clear()
        self.assertEqual(given, [1, 5, 15, 25])


class NoRows(unittest.TestCase):

    def refuse(self, coins):
        before = list(coins)
        with self.assertRaises(NoRow) as caught:
            good_row(coins)
        self.assertIs(type(caught.exception), NoRow)
        self.assertEqual(coins, before)

    def test_no_coins(self):
        self.refuse([])

    def test_more_than_twelve_coins(self):
        self.refuse(list(range(1, 14)))
        self.refuse(list(range(1, 15)))
        self.refuse(list(range(1, 1001)))

    def test_another_first_number_than_one(self):
        for first in [0, 2, -1, -2, 25, HIGH]:
            with self.subTest(first=first):
                self.refuse([first])
                self.refuse([first, first + 1])
                self.refuse([first, first + 1, first + 5])
        self.refuse([0, 1])
        self.refuse([-1, 1, 5])
        self.refuse([5, 1])

    def test_two_equal_neighbours(self):
        self.refuse([1, 1])
        self.refuse([1, 1, 5])
        self.refuse([1, 5, 5, 25])
        self.refuse([1, 5, 25, 25])
        self.refuse([1, HIGH, HIGH])

    def test_two_neighbours_that_fall(self):
        self.refuse([1, 15, 5, 25])
        self.refuse([1, 5, 25, 24])
        self.refuse([1, 5, 25, 2])
        self.refuse([1, 25, 5])
        self.refuse([1, 0])

    def test_a_number_below_nought_anywhere(self):
        row = [1, 5, 15, 25]
        for at in range(4):
            for low in [-1, -row[at], -HIGH, -HIGH - 1]:
                with self.subTest(at=at, low=low):
                    self.refuse(row[:at] + [low] + row[at + 1:])
        self.refuse([1, -5])

    def test_nought_anywhere(self):
        row = [1, 5, 15, 25]
        for at in range(4):
            with self.subTest(at=at):
                self.refuse(row[:at] + [0] + row[at + 1:])

    def test_a_number_above_the_greatest(self):
        self.refuse([1, HIGH + 1])
        self.refuse([1, 5, HIGH + 1])
        self.refuse([1, HIGH, HIGH + 1])
        self.refuse([1, HIGH + 1, HIGH + 2])
        self.refuse([1, HIGH + 1, 5])
        self.refuse([10 ** at for at in range(11)] + [HIGH + 1])

    def test_numbers_that_python_would_not_write(self):
        self.refuse([10 ** 5000])
        self.refuse([-10 ** 5000])
        self.refuse([1, 10 ** 5000])
        self.refuse([1, -10 ** 5000])


if __name__ == "__main__":
    unittest.main()
