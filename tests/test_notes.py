"""Points 1 and 12 to 14 of DOC.md, and the interface of coinjudge/notes.py."""

import inspect
import unittest

from coinjudge import notes
from coinjudge.errors import NoRow, NoText
from coinjudge.notes import read, shown, told, written
from coinjudge.trials import judged
from coinjudge.ways import first_way

HIGH = 10 ** 60
TWELVE = [10 ** at for at in range(11)] + [HIGH]

TEXTS = [([1], "1"),
         ([1, 2], "1 2"),
         ([1, 5, 15, 25], "1 5 15 25"),
         ([1, 2, 5, 10, 20, 50, 100, 200], "1 2 5 10 20 50 100 200"),
         (list(range(1, 13)), "1 2 3 4 5 6 7 8 9 10 11 12"),
         ([1, HIGH - 1, HIGH], "1 " + "9" * 60 + " 1" + "0" * 60),
         (TWELVE, " ".join("1" + "0" * at for at in list(range(11)) + [60]))]


class Interface(unittest.TestCase):

    def test_each_function_is_defined_in_notes_with_its_arguments(self):
        for name, arguments in [("written", ["coins"]), ("read", ["line"]),
                                ("shown", ["coins", "way"]), ("told", ["coins"])]:
            with self.subTest(name=name):
                function = getattr(notes, name)
                self.assertEqual(function.__module__, "coinjudge.notes")
                self.assertEqual(function.__qualname__, name)
                self.assertEqual(list(inspect.signature(function).parameters), arguments)


class Written(unittest.TestCase):

    def test_by_figures_with_one_blank_between_two(self):
        for coins, text in TEXTS:
            before = list(coins)
            self.assertEqual(written(coins), text)
            self.assertIs(type(written(coins)), str)
            self.assertEqual(coins, before)

    def test_there_and_back(self):
        for most in range(1, 13):
            for coins in [list(range(1, most + 1)), [10 ** (5 * at) for at in range(most)],
                          [1] + [HIGH - at for at in reversed(range(most - 1))]]:
                self.assertEqual(read(written(coins)), coins)


class Read(unittest.TestCase):

    def refuse(self, kind, line):
        with self.assertRaises(kind, msg=repr(line[:99])) as caught:
            read(line)
        self.assertIs(type(caught.exception), kind, repr(line[:99]))

    def test_the_row(self):
        for coins, text in TEXTS:
            given = read(text)
            self.assertEqual(given, coins)
            self.assertIs(type(given), list)
            self.assertEqual([type(coin) for coin in given], [int] * len(coins))
            self.assertEqual(written(given), text)

    def test_a_number_of_sixty_one_figures(self):
        self.assertEqual(read("1 1" + "0" * 60), [1, HIGH])

    def test_the_row_may_be_changed(self):
        row = read("1 15 25")
        row[1] = 7
        row.append(1)
        self.assertEqual(read("1 15 25"), [1, 15, 25])

    def test_blanks_that_are_not_between_two_numbers(self):
        for line in ["", " ", "  ", "   ", " 1", "1 ", " 1 5", "1 5 ", "1  5", "1 5  15", "1   5"]:
            self.refuse(NoText, line)

    def test_noughts_ahead(self):
        for line in ["0", "00", "01", "1 05", "1 0", "0 1", "1 5 015", "1 00", "1 5 0" + "1" * 60]:
            self.refuse(NoText, line)

    def test_signs_that_are_no_figures(self):
        for line in ["+1", "-1", "1 -5", "1 +5", "1.5", "1,5", "1, 5", "1. 5", "1_0", "1 1_0", "1 5e1", "1 0x5",
                     "a", "one", "1 a", "1 5a", "1 a5", "1 5-", "1 5+", "1;5", "1 (5)", "[1, 5]", "1/5", "1 /", "1 :"]:
            self.refuse(NoText, line)

    def test_tabs_and_line_ends(self):
        for sign in ["\t", "\n", "\r", "\r\n", "\v", "\f"]:
            for line in [sign, "1" + sign + "5", "1" + sign, sign + "1", "1 5" + sign, "1 " + sign + "5",
                         "1" + sign + " 5", "1 5 " + sign]:
                self.refuse(NoText, line)

    def test_numbers_of_more_than_sixty_one_figures(self):
        for many in [62, 63, 100, 4300, 4301, 5000, 20000]:
            for figure in ["1", "9"]:
                self.refuse(NoText, figure * many)
                self.refuse(NoText, "1 " + figure * many)
                self.refuse(NoText, "1 " + figure * many + " 5")
            self.refuse(NoText, "1 1" + "0" * (many - 1))

    def test_numbers_that_are_no_row(self):
        for line in ["2", "5", "2 5", "1 1", "1 5 5", "1 9 4", "1 5 15 14", "1 2 1", "5 1",
                     " ".join(str(number) for number in range(1, 14)),
                     " ".join(str(number) for number in range(1, 40))]:
            self.refuse(NoRow, line)

    def test_numbers_of_sixty_one_figures_above_the_greatest(self):
        for line in ["1 1" + "0" * 59 + "1", "1 2" + "0" * 60, "1 " + "9" * 61, "9" * 61]:
            self.refuse(NoRow, line)

    def test_a_text_that_is_no_list_of_numbers_is_none_ahead_of_no_row(self):
        thirteen = " ".join(str(number) for number in range(1, 14))
        for line in ["2 5 x", "2 05", "1 5 5 ", " 1 9 4", "5  1", "1 9 4 -1", thirteen + " ", thirteen + " a",
                     "2 " + "1" * 62, "1 1" + "0" * 59 + "1 0", "1 9 4\n", "1 0 0"]:
            self.refuse(NoText, line)


class Shown(unittest.TestCase):

    def show(self, coins, way):
        coins_before, way_before = list(coins), list(way)
        text = shown(coins, way)
        self.assertIs(type(text), str)
        self.assertEqual(coins, coins_before)
        self.assertEqual(way, way_before)
        return text

    def test_from_the_greatest_coin_down(self):
        self.assertEqual(self.show([1, 5, 15, 25], [0, 1, 0, 2]), "2 of 25 and 1 of 5")
        self.assertEqual(self.show([1, 15, 25], [5, 0, 1]), "1 of 25 and 5 of 1")

    def test_one_coin_alone(self):
        self.assertEqual(self.show([1, 15, 25], [0, 2, 0]), "2 of 15")
        self.assertEqual(self.show([1, 15, 25], [7, 0, 0]), "7 of 1")
        self.assertEqual(self.show([1, 15, 25], [0, 0, 1]), "1 of 25")
        self.assertEqual(self.show([1], [1]), "1 of 1")

    def test_more_than_two_coins(self):
        self.assertEqual(self.show([1, 15, 25], [3, 2, 1]), "1 of 25 and 2 of 15 and 3 of 1")
        self.assertEqual(
            self.show(list(range(1, 13)), [1] * 12),
            "1 of 12 and 1 of 11 and 1 of 10 and 1 of 9 and 1 of 8 and 1 of 7"
            " and 1 of 6 and 1 of 5 and 1 of 4 and 1 of 3 and 1 of 2 and 1 of 1")

    def test_no_pieces(self):
        self.assertEqual(self.show([1], [0]), "nothing")
        self.assertEqual(self.show([1, 5, 15, 25], [0, 0, 0, 0]), "nothing")
        self.assertEqual(self.show(TWELVE, [0] * 12), "nothing")

    def test_great_coins_and_great_counts(self):
        self.assertEqual(
            self.show([1, HIGH], [10 ** 80, 10 ** 20]),
            "1" + "0" * 20 + " of 1" + "0" * 60 + " and 1" + "0" * 80 + " of 1")
        self.assertEqual(self.show([1, HIGH - 1], [0, 12]), "12 of " + "9" * 60)

    def test_counts_about_the_lengths_at_which_a_number_might_be_cut(self):
        for many in range(1, 260):
            self.assertEqual(self.show([1], [10 ** many]), "1" + "0" * many + " of 1")
            self.assertEqual(self.show([1], [10 ** many - 1]), "9" * many + " of 1")
            self.assertEqual(self.show([1], [10 ** many + 1]), "1" + "0" * (many - 1) + "1 of 1")

    def test_counts_that_python_would_not_write(self):
        self.assertEqual(self.show([1, 3], [10 ** 5000, 2]), "2 of 3 and 1" + "0" * 5000 + " of 1")
        self.assertEqual(self.show([1, 3], [0, 10 ** 5000 - 1]), "9" * 5000 + " of 3")


class Told(unittest.TestCase):

    def tell(self, coins):
        before = list(coins)
        text = told(coins)
        self.assertIs(type(text), str)
        self.assertEqual(coins, before)
        return text

    def test_the_worth_the_better_way_and_the_first_way(self):
        self.assertEqual(self.tell([1, 15, 25]), "30: 2 of 15, not 1 of 25 and 5 of 1")
        self.assertEqual(self.tell([1, 3, 4]), "6: 2 of 3, not 1 of 4 and 2 of 1")
        self.assertEqual(self.tell([1, 4, 10, 15]), "18: 1 of 10 and 2 of 4, not 1 of 15 and 3 of 1")
        self.assertEqual(self.tell([1, 3, 4, 5, 6]), "8: 2 of 4, not 1 of 6 and 2 of 1")

    def test_right_for_every_amount(self):
        for coins in [[1], [1, 2], [1, HIGH], [1, 2, 5, 10], [1, 5, 15, 25], TWELVE, list(range(1, 13))]:
            self.assertEqual(self.tell(coins), "right for every amount")

    def test_coins_up_to_the_greatest(self):
        nines = "9" * 60
        self.assertEqual(
            self.tell([1, HIGH - 1, HIGH]),
            "1" + "9" * 59 + "8: 2 of " + nines + ", not 1 of 1" + "0" * 60 + " and " + "9" * 59 + "8 of 1")

    def test_it_is_made_of_the_verdict_and_the_ways(self):
        for coins in [[1, 4, 8, 13], [1, 4, 7, 12], [1, 5, 10, 26], [1, 4, 13, 16, 21]]:
            amount, way = judged(coins)
            self.assertEqual(
                self.tell(coins),
                str(amount) + ": " + shown(coins, way) + ", not " + shown(coins, first_way(coins, amount)))


if __name__ == "__main__":
    unittest.main()
