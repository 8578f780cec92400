"""Points 1 and 5 to 9 of DOC.md, and the interface of coinjudge/trials.py."""

import inspect
import unittest
from itertools import combinations

from coinjudge import trials as module
from coinjudge.errors import NoWay
from coinjudge.trials import judged, trial, trials
from coinjudge.ways import first_way, pieces, worth

HIGH = 10 ** 60
TWELVE = [10 ** at for at in range(11)] + [HIGH]
SCALED = [10 ** at for at in range(10)] + [15 * 10 ** 58, 25 * 10 ** 58]
TOPPED = [10 ** at for at in range(10)] + [6 * 10 ** 59, HIGH]
FOOTED = [1, 3, 4] + [4 * 10 ** at for at in range(1, 9)] + [HIGH]

SMALL = [[1], [1, 2], [1, 15], [1, 3, 4], [1, 15, 25], [1, 5, 15, 25], [1, 2, 5, 10],
         [1, 4, 8, 13], [1, 3, 4, 5, 6], [1, 3, 6, 10], [1, 2, 3, 5, 8, 13, 21], list(range(1, 13))]
GREAT = [TWELVE, SCALED, TOPPED, FOOTED, [1, HIGH], [1, 2, HIGH - 1, HIGH]]


def many_small_rows():
    """Rows of one to twelve coins, each small enough for a table of amounts."""
    for more, last in [(0, 2), (1, 40), (2, 30), (3, 20)]:
        for coins in combinations(range(2, last), more):
            yield [1] + list(coins)
    for more in range(4, 12):
        for coins in combinations(range(2, 14), more):
            yield [1] + list(coins)


def great_rows():
    """Rows of twelve coins with small and with great steps, the same ones each time."""
    number = 7
    for _ in range(200):
        coins = [1]
        while len(coins) < 12:
            number = (number * 6364136223846793005 + 1442695040888963407) % 2 ** 64
            times = 1 + number // 2 ** 20 % (9 if len(coins) % 2 else 5 * 10 ** 10)
            coins.append(times * coins[-1] + number ** 3 % coins[-1] + 1)
        yield coins


def all_pieces(coins, most):
    """The fewest pieces and those of the first way, of each amount up to most."""
    least, first = [0], [0]
    for amount in range(1, most + 1):
        going = [coin for coin in coins if coin <= amount]
        least.append(1 + min(least[amount - coin] for coin in going))
        first.append(1 + first[amount - max(going)])
    return least, first


def trial_by_words(coins, high, low):
    """Point 6, by one division for each coin from high down."""
    due = coins[high] - 1
    way = [0] * len(coins)
    for at in reversed(range(high)):
        way[at], due = divmod(due, coins[at])
    return [0] * low + [way[low] + 1] + way[low + 1:]


def verdict_by_words(coins):
    """Points 7 and 8: all trials that have fewer pieces, the first of the order."""
    found = []
    for high in range(1, len(coins)):
        for low in range(high):
            way = trial_by_words(coins, high, low)
            amount = sum(coin * many for coin, many in zip(coins, way))
            if sum(way) < sum(first_way(coins, amount)):
                found.append((amount, sum(way), high, low, way))
    if not found:
        return None
    best = sorted(found)[0]
    return (best[0], best[4])


class Interface(unittest.TestCase):

    def test_each_function_is_defined_in_trials_with_its_arguments(self):
        for name, arguments in [("trial", ["coins", "high", "low"]), ("trials", ["coins"]), ("judged", ["coins"])]:
            with self.subTest(name=name):
                told = getattr(module, name)
                self.assertEqual(told.__module__, "coinjudge.trials")
                self.assertEqual(told.__qualname__, name)
                self.assertEqual(list(inspect.signature(told).parameters), arguments)


class Trial(unittest.TestCase):

    def tried(self, coins, high, low):
        before = list(coins)
        way = trial(coins, high, low)
        self.assertIs(type(way), list)
        self.assertEqual([type(many) for many in way], [int] * len(before))
        self.assertEqual(coins, before)
        return way

    def test_the_trials_of_1_15_25(self):
        self.assertEqual(self.tried([1, 15, 25], 2, 1), [0, 2, 0])
        self.assertEqual(self.tried([1, 15, 25], 2, 0), [10, 1, 0])
        self.assertEqual(self.tried([1, 15, 25], 1, 0), [15, 0, 0])

    def test_low_has_no_piece_before(self):
        # The first way of 24 over 1, 5, 20, 25 is 4 of 1 and 1 of 20.
        self.assertEqual(self.tried([1, 5, 20, 25], 3, 1), [0, 1, 1, 0])
        self.assertEqual(self.tried([1, 5, 20, 25], 3, 2), [0, 0, 2, 0])
        self.assertEqual(self.tried([1, 5, 20, 25], 3, 0), [5, 0, 1, 0])

    def test_two_coins(self):
        self.assertEqual(self.tried([1, 2], 1, 0), [2, 0])
        self.assertEqual(self.tried([1, HIGH], 1, 0), [HIGH, 0])

    def test_coins_above_high_have_no_pieces(self):
        self.assertEqual(self.tried([1, 15, 25, 26, 90], 2, 1), [0, 2, 0, 0, 0])
        self.assertEqual(self.tried(TWELVE, 1, 0), [10] + [0] * 11)

    def test_twelve_coins_up_to_the_greatest(self):
        for low in range(10):
            with self.subTest(low=low):
                self.assertEqual(
                    self.tried(TWELVE, 11, low),
                    [0] * low + [10] + [9] * (9 - low) + [10 ** 50 - 1, 0])
        self.assertEqual(self.tried(TWELVE, 11, 10), [0] * 10 + [10 ** 50, 0])
        self.assertEqual(self.tried(SCALED, 11, 10), [0] * 10 + [2, 0])
        self.assertEqual(self.tried(SCALED, 11, 9), [0] * 9 + [10 ** 50, 1, 0])

    def test_all_trials_by_the_words_of_the_document(self):
        for coins in SMALL + GREAT + list(great_rows()):
            for high in range(1, len(coins)):
                for low in range(high):
                    self.assertEqual(
                        self.tried(coins, high, low), trial_by_words(coins, high, low), (coins, high, low))

    def test_the_way_may_be_changed(self):
        coins = [1, 15, 25]
        way = trial(coins, 2, 1)
        way[0] = 77
        way.append(1)
        self.assertEqual(trial(coins, 2, 1), [0, 2, 0])
        self.assertEqual(coins, [1, 15, 25])


class NoTrial(unittest.TestCase):

    def refuse(self, coins, high, low):
        before = list(coins)
        with self.assertRaises(NoWay, msg=(coins, high, low)) as caught:
            trial(coins, high, low)
        self.assertIs(type(caught.exception), NoWay)
        self.assertEqual(coins, before)

    def test_low_below_nought(self):
        for coins in SMALL + GREAT:
            for high in range(len(coins)):
                for low in [-1, -2, -len(coins), -30, -10 ** 5000]:
                    self.refuse(coins, high, low)

    def test_low_equal_to_high(self):
        for coins in SMALL + GREAT:
            for at in range(len(coins)):
                self.refuse(coins, at, at)

    def test_low_greater_than_high(self):
        for coins in SMALL + GREAT:
            for high in range(len(coins)):
                for low in [high + 1, high + 2, len(coins), high + 30]:
                    self.refuse(coins, high, low)

    def test_high_behind_the_last_place(self):
        for coins in SMALL + GREAT:
            for high in [len(coins), len(coins) + 1, len(coins) + 30, 10 ** 5000]:
                for low in [0, len(coins) - 1, high - 1]:
                    self.refuse(coins, high, low)

    def test_high_below_nought(self):
        for coins in SMALL + GREAT:
            for high in [-1, -2, -len(coins), -30]:
                for low in [0, 1, high - 1, high, high + 1]:
                    self.refuse(coins, high, low)


class Trials(unittest.TestCase):

    def listed(self, coins):
        before = list(coins)
        pairs = trials(coins)
        self.assertIs(type(pairs), list)
        for pair in pairs:
            self.assertIs(type(pair), tuple)
            self.assertEqual([type(part) for part in pair], [int, list])
            self.assertEqual([type(many) for many in pair[1]], [int] * len(before))
        self.assertEqual(coins, before)
        return pairs

    def test_one_coin(self):
        self.assertEqual(self.listed([1]), [])

    def test_two_coins(self):
        self.assertEqual(self.listed([1, 2]), [(2, [2, 0])])
        self.assertEqual(self.listed([1, HIGH]), [(HIGH, [HIGH, 0])])

    def test_three_and_four_coins(self):
        self.assertEqual(self.listed([1, 15, 25]), [(15, [15, 0, 0]), (25, [10, 1, 0]), (30, [0, 2, 0])])
        self.assertEqual(
            self.listed([1, 4, 8, 13]),
            [(4, [4, 0, 0, 0]), (8, [4, 1, 0, 0]), (8, [0, 2, 0, 0]),
             (13, [1, 1, 1, 0]), (16, [0, 2, 1, 0]), (16, [0, 0, 2, 0])])

    def test_each_high_and_each_low_rising(self):
        for coins in SMALL + GREAT + list(great_rows()):
            ways = [trial_by_words(coins, high, low) for high in range(1, len(coins)) for low in range(high)]
            self.assertEqual([way for _, way in self.listed(coins)], ways)

    def test_the_worth_is_that_of_the_way(self):
        for coins in SMALL + GREAT + list(great_rows()):
            for amount, way in self.listed(coins):
                self.assertEqual(amount, sum(coin * many for coin, many in zip(coins, way)))
                self.assertEqual(amount, worth(coins, way))

    def test_twelve_coins_have_sixty_six_trials(self):
        for coins in [TWELVE, SCALED, TOPPED, FOOTED]:
            self.assertEqual(len(self.listed(coins)), 66)

    def test_no_told_way_hangs_on_another(self):
        for coins in [[1, 15, 25], [1, 4, 8, 13], TWELVE]:
            before = [(amount, list(way)) for amount, way in trials(coins)]
            pairs = trials(coins)
            for at in range(len(pairs)):
                pairs[at][1][0] += 1000
                pairs[at][1].append(5)
                self.assertEqual(pairs[at + 1:], before[at + 1:])
            pairs.clear()
            self.assertEqual(trials(coins), before)


class Judged(unittest.TestCase):

    def verdict(self, coins):
        before = list(coins)
        given = judged(coins)
        self.assertEqual(coins, before)
        if given is not None:
            self.assertIs(type(given), tuple)
            self.assertEqual([type(part) for part in given], [int, list])
            amount, way = given
            self.assertEqual([type(many) for many in way], [int] * len(before))
            self.assertEqual(worth(coins, way), amount, coins)
            self.assertLess(pieces(way), pieces(first_way(coins, amount)), coins)
            self.assertGreater(amount, coins[2] + 1, coins)
            self.assertLess(amount, coins[-1] + coins[-2], coins)
        return given

    def test_rows_for_which_an_amount_is_wrong(self):
        self.assertEqual(self.verdict([1, 15, 25]), (30, [0, 2, 0]))
        self.assertEqual(self.verdict([1, 3, 4]), (6, [0, 2, 0]))
        self.assertEqual(self.verdict([1, 5, 10, 20, 25]), (40, [0, 0, 0, 2, 0]))

    def test_rows_that_are_right(self):
        for coins in [[1, 2, 5, 10], [1, 5, 10, 25, 50, 100], [1, 2, 5, 10, 20, 50, 100, 200],
                      [1, 2, 3], [1, 5, 15, 25], [1, 2, 3, 5, 8, 13, 21, 34], list(range(1, 13))]:
            self.assertIsNone(self.verdict(coins), coins)

    def test_rows_of_one_and_of_two_coins(self):
        self.assertIsNone(self.verdict([1]))
        for last in list(range(2, 300)) + [10 ** 30 + 7, HIGH - 1, HIGH]:
            self.assertIsNone(self.verdict([1, last]), last)

    def test_a_trial_with_as_many_pieces_as_the_first_way_tells_nothing(self):
        # Over 1, 2, 3 the amount 4 is 2 of 2, or 1 of 3 and 1 of 1.
        self.assertIn((4, [0, 2, 0]), trials([1, 2, 3]))
        self.assertIsNone(self.verdict([1, 2, 3]))
        # Over 1, 3, 6, 10 the first trial of 12 has 3 pieces, as the first way.
        self.assertIn((12, [0, 2, 1, 0]), trials([1, 3, 6, 10]))
        self.assertEqual(self.verdict([1, 3, 6, 10]), (12, [0, 0, 2, 0]))

    def test_the_least_worth_goes_ahead_of_fewer_pieces_and_of_the_list(self):
        for coins, amount, way, other in [
                # The other one has fewer pieces.
                ([1, 4, 9, 13], 12, [0, 3, 0, 0], [0, 0, 2, 0]),
                # The other one stands ahead in the list.
                ([1, 4, 7, 12], 14, [0, 0, 2, 0], [0, 2, 1, 0]),
                # Both.
                ([1, 4, 13, 16, 21], 24, [0, 2, 0, 1, 0], [0, 0, 2, 0, 0])]:
            more = worth(coins, other)
            self.assertGreater(more, amount)
            self.assertIn((more, other), trials(coins))
            self.assertLess(pieces(other), pieces(first_way(coins, more)))
            self.assertEqual(self.verdict(coins), (amount, way))

    def test_of_equal_worth_the_fewest_pieces(self):
        for coins, ways in [([1, 4, 8, 13], [[0, 2, 1, 0], [0, 0, 2, 0]]),
                            ([1, 5, 10, 26], [[0, 2, 2, 0], [0, 0, 3, 0]]),
                            ([1, 5, 15, 26], [[0, 3, 1, 0], [0, 0, 2, 0]])]:
            amount = worth(coins, ways[0])
            for way in ways:
                self.assertIn((amount, way), trials(coins))
                self.assertLess(pieces(way), pieces(first_way(coins, amount)))
            self.assertEqual(self.verdict(coins), (amount, ways[1]))

    def test_of_equal_worth_and_pieces_the_first_of_the_list(self):
        for coins, amount in [([1, 3, 4, 5, 6], 8), ([1, 3, 5, 7, 8], 10), ([1, 3, 6, 9, 10], 12)]:
            ways = [[0, 0, 2, 0, 0], [0, 1, 0, 1, 0]]
            pairs = trials(coins)
            self.assertLess(pairs.index((amount, ways[0])), pairs.index((amount, ways[1])))
            self.assertEqual(self.verdict(coins), (amount, ways[0]))

    def test_the_order_of_point_8_over_many_rows(self):
        for coins in many_small_rows():
            self.assertEqual(judged(coins), verdict_by_words(coins), coins)

    def test_it_is_the_least_wrong_amount_with_as_few_pieces_as_any(self):
        right, wrong = 0, 0
        for coins in many_small_rows():
            least, first = all_pieces(coins, 2 * coins[-1])
            amounts = [amount for amount in range(len(least)) if least[amount] < first[amount]]
            given = self.verdict(coins)
            if not amounts:
                self.assertIsNone(given, coins)
                right += 1
            else:
                self.assertIsNotNone(given, coins)
                self.assertEqual(given[0], amounts[0], coins)
                self.assertEqual(pieces(given[1]), least[amounts[0]], coins)
                wrong += 1
        # Rows of both kinds have been met.
        self.assertGreater(right, 300)
        self.assertGreater(wrong, 300)

    def test_twelve_coins_that_divide_each_other(self):
        self.assertIsNone(self.verdict(TWELVE))
        self.assertIsNone(self.verdict([10 ** (5 * at) for at in range(11)] + [HIGH]))
        self.assertIsNone(self.verdict([1] + [2 ** at * 5 ** 60 for at in range(50, 61)]))

    def test_twelve_coins_up_to_the_greatest(self):
        # Only two pieces of the last coin but one are better than the shop's way.
        self.assertEqual(self.verdict(SCALED), (30 * 10 ** 58, [0] * 10 + [2, 0]))
        self.assertEqual(self.verdict(TOPPED), (12 * 10 ** 59, [0] * 10 + [2, 0]))
        # What is wrong for 1, 3, 4 is so whatever greater coins there are.
        self.assertEqual(self.verdict(FOOTED), (6, [0, 2] + [0] * 10))

    def test_coins_that_differ_by_one_at_the_top(self):
        self.assertEqual(self.verdict([1, HIGH - 1, HIGH]), (2 * HIGH - 2, [0, 2, 0]))
        self.assertEqual(self.verdict([1, 2, HIGH - 1, HIGH]), (2 * HIGH - 2, [0, 0, 2, 0]))

    def test_great_rows_by_the_words_of_the_document(self):
        given = []
        for coins in great_rows():
            given.append(self.verdict(coins))
            self.assertEqual(given[-1], verdict_by_words(coins), coins)
        self.assertGreater(len([verdict for verdict in given if verdict is not None]), 50)

    def test_the_told_way_may_be_changed(self):
        for coins in [[1, 15, 25], [1, 3, 4], SCALED]:
            row = list(coins)
            amount, way = judged(coins)
            before = list(way)
            way[0] = 77
            way.append(1)
            self.assertEqual(judged(coins), (amount, before))
            self.assertEqual(coins, row)


if __name__ == "__main__":
    unittest.main()
