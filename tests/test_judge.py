"""Points 1 and 11 of DOC.md, and the interface of coinjudge/judge.py."""

import inspect
import unittest

from coinjudge import judge as module
from coinjudge.errors import NoRow
from coinjudge.judge import Judge
from coinjudge.trials import judged

HIGH = 10 ** 60


def judge_of(coins):
    """A judge that keeps the row, which begins with 1."""
    judge = Judge()
    for coin in coins[1:]:
        judge.more(coin)
    return judge


class Interface(unittest.TestCase):

    def test_the_class_is_defined_in_judge(self):
        self.assertEqual(module.Judge.__module__, "coinjudge.judge")
        self.assertEqual(module.Judge.__qualname__, "Judge")
        self.assertEqual(list(inspect.signature(Judge).parameters), [])

    def test_each_method_stands_in_the_class_itself(self):
        for name, arguments in [("row", ["self"]), ("more", ["self", "coin"]),
                                ("fewer", ["self"]), ("verdict", ["self"])]:
            with self.subTest(name=name):
                self.assertIn(name, vars(Judge))
                self.assertEqual(list(inspect.signature(vars(Judge)[name]).parameters), arguments)


class Rows(unittest.TestCase):

    def test_at_first(self):
        judge = Judge()
        self.assertEqual(judge.row(), [1])
        self.assertIs(type(judge.row()), list)
        self.assertIsNone(judge.verdict())

    def test_more_puts_the_coin_behind(self):
        judge = Judge()
        self.assertIsNone(judge.more(15))
        self.assertEqual(judge.row(), [1, 15])
        self.assertIsNone(judge.more(25))
        self.assertEqual(judge.row(), [1, 15, 25])
        self.assertIsNone(judge.more(HIGH))
        self.assertEqual(judge.row(), [1, 15, 25, HIGH])

    def test_twelve_coins(self):
        judge = Judge()
        for coin in range(2, 13):
            self.assertIsNone(judge.more(coin))
        self.assertEqual(judge.row(), list(range(1, 13)))

    def test_fewer_gives_back_the_coin_that_it_takes_off(self):
        judge = judge_of([1, 15, 25, HIGH])
        self.assertEqual(judge.fewer(), HIGH)
        self.assertEqual(judge.row(), [1, 15, 25])
        self.assertEqual(judge.fewer(), 25)
        self.assertEqual(judge.row(), [1, 15])
        self.assertEqual(judge.fewer(), 15)
        self.assertEqual(judge.row(), [1])

    def test_a_coin_may_come_again_behind_one_that_was_taken_off(self):
        judge = judge_of([1, 15, 25])
        judge.fewer()
        judge.more(25)
        self.assertEqual(judge.row(), [1, 15, 25])
        judge.fewer()
        judge.more(16)
        self.assertEqual(judge.row(), [1, 15, 16])
        judge.fewer()
        judge.fewer()
        judge.more(2)
        self.assertEqual(judge.row(), [1, 2])

    def test_a_thirteenth_coin_has_room_behind_one_that_was_taken_off(self):
        judge = judge_of(list(range(1, 13)))
        with self.assertRaises(NoRow):
            judge.more(13)
        judge.fewer()
        judge.more(13)
        self.assertEqual(judge.row(), list(range(1, 12)) + [13])


class Refused(unittest.TestCase):

    def refuse(self, judge, coin):
        row, verdict = judge.row(), judge.verdict()
        with self.assertRaises(NoRow) as caught:
            judge.more(coin)
        self.assertIs(type(caught.exception), NoRow)
        self.assertEqual(judge.row(), row)
        self.assertEqual(judge.verdict(), verdict)

    def test_a_coin_equal_to_the_last_one_or_less(self):
        for row in [[1], [1, 2], [1, 15, 25], list(range(1, 12)), [1, HIGH]]:
            judge = judge_of(row)
            for coin in [row[-1], row[-1] - 1, 1, 0]:
                self.refuse(judge, coin)

    def test_a_coin_below_nought(self):
        for row in [[1], [1, 15, 25], list(range(1, 12))]:
            judge = judge_of(row)
            for coin in [-1, -2, -row[-1] - 1, -HIGH, -10 ** 5000]:
                self.refuse(judge, coin)

    def test_a_coin_above_the_greatest(self):
        for row in [[1], [1, 15, 25], [1, HIGH - 1], [1, HIGH]]:
            judge = judge_of(row)
            for coin in [HIGH + 1, HIGH + 2, 10 ** 61, 10 ** 5000]:
                self.refuse(judge, coin)

    def test_a_thirteenth_coin(self):
        for row in [list(range(1, 13)), [5 ** at for at in range(12)]]:
            judge = judge_of(row)
            for coin in [row[-1] + 1, row[-1] * 5, HIGH]:
                self.refuse(judge, coin)

    def test_taking_off_the_only_one(self):
        judge = Judge()
        for _ in range(3):
            with self.assertRaises(NoRow) as caught:
                judge.fewer()
            self.assertIs(type(caught.exception), NoRow)
            self.assertEqual(judge.row(), [1])
            self.assertIsNone(judge.verdict())
        judge.more(5)
        self.assertEqual(judge.fewer(), 5)
        with self.assertRaises(NoRow):
            judge.fewer()
        self.assertEqual(judge.row(), [1])


class Verdicts(unittest.TestCase):

    def test_the_verdict_on_the_row_as_it_stands(self):
        judge = Judge()
        for coin, verdict in [(3, None), (4, (6, [0, 2, 0])), (12, (6, [0, 2, 0, 0]))]:
            judge.more(coin)
            self.assertEqual(judge.verdict(), verdict)
        for verdict in [(6, [0, 2, 0]), None, None]:
            judge.fewer()
            self.assertEqual(judge.verdict(), verdict)
        judge.more(15)
        judge.more(25)
        self.assertEqual(judge.verdict(), (30, [0, 2, 0]))

    def test_kinds_of_values(self):
        verdict = judge_of([1, 15, 25]).verdict()
        self.assertIs(type(verdict), tuple)
        self.assertEqual([type(part) for part in verdict], [int, list])

    def test_behind_coins_that_were_put_refused_and_taken_off(self):
        judge = Judge()
        row = [1]
        number = 11
        for _ in range(600):
            number = (number * 6364136223846793005 + 1442695040888963407) % 2 ** 64
            step = number // 2 ** 33 % 5
            coin = row[-1] + number // 2 ** 40 % (row[-1] + 4) - 1
            if step == 0 and len(row) == 1:
                with self.assertRaises(NoRow):
                    judge.fewer()
            elif step == 0:
                self.assertEqual(judge.fewer(), row.pop())
            elif len(row) == 12 or coin <= row[-1]:
                with self.assertRaises(NoRow):
                    judge.more(coin)
            else:
                self.assertIsNone(judge.more(coin))
                row.append(coin)
            self.assertEqual(judge.row(), row)
            self.assertEqual(judge.verdict(), judged(row))

    def test_asking_changes_nothing(self):
        judge = judge_of([1, 15, 25])
        for _ in range(3):
            self.assertEqual(judge.verdict(), (30, [0, 2, 0]))
            self.assertEqual(judge.row(), [1, 15, 25])


class Apart(unittest.TestCase):

    def test_a_list_from_row_may_be_changed(self):
        judge = judge_of([1, 15, 25])
        row = judge.row()
        row[1] = 5
        row.append(7)
        self.assertEqual(judge.row(), [1, 15, 25])
        self.assertEqual(judge.verdict(), (30, [0, 2, 0]))
        judge.row().clear()
        self.assertEqual(judge.row(), [1, 15, 25])

    def test_a_list_from_row_stays_when_the_judge_changes(self):
        judge = judge_of([1, 15, 25])
        row = judge.row()
        judge.fewer()
        judge.more(30)
        self.assertEqual(row, [1, 15, 25])

    def test_a_way_from_verdict_may_be_changed(self):
        judge = judge_of([1, 15, 25])
        way = judge.verdict()[1]
        way[0] = 77
        way.append(1)
        self.assertEqual(judge.verdict(), (30, [0, 2, 0]))
        self.assertEqual(judge.row(), [1, 15, 25])

    def test_two_judges_have_nothing_to_do_with_each_other(self):
        one, other = Judge(), Judge()
        one.more(15)
        one.more(25)
        self.assertEqual(other.row(), [1])
        self.assertIsNone(other.verdict())
        other.more(3)
        other.more(4)
        one.fewer()
        self.assertEqual(one.row(), [1, 15])
        self.assertEqual(other.row(), [1, 3, 4])
        self.assertIsNone(one.verdict())
        self.assertEqual(other.verdict(), (6, [0, 2, 0]))
        self.assertEqual(Judge().row(), [1])


if __name__ == "__main__":
    unittest.main()
