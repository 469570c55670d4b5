"""[7.1] to [7.3]: several equal things at a common price."""

import itertools
import random
import unittest

from proxybids.several import best_many, common_price, income, sold_to
from samples import LAMP, single_cases

STEPS = LAMP[0]
BIDS = [("a", 20), ("b", 15), ("c", 15)]
SIX = [("c", 40), ("a", 60), ("f", 10), ("b", 50), ("e", 20), ("d", 30)]


class Examples(unittest.TestCase):
    bids = [("a", 20), ("b", 15), ("c", 12)]

    def test_sold_to(self):
        self.assertEqual(sold_to(LAMP, BIDS, 2), "ab")

    def test_income(self):
        self.assertEqual(income(LAMP, self.bids, 2), 24)

    def test_common_price(self):
        self.assertEqual(common_price(LAMP, self.bids, 2), 12)

    def test_best_many(self):
        self.assertEqual(best_many(LAMP, self.bids), 2)


class Several(unittest.TestCase):
    """Answers that were worked out by hand: winners and prices for 1 to 6 things."""

    def check(self, sale, bids, winners, prices, best):
        for many in range(1, 7):
            with self.subTest(sale=sale, bids=bids, many=many):
                won, price = winners[many - 1], prices[many - 1]
                self.assertEqual(sold_to(sale, bids, many), won)
                self.assertEqual(common_price(sale, bids, many), price)
                self.assertEqual(income(sale, bids, many), price * len(won))
        with self.subTest(sale=sale, bids=bids):
            self.assertEqual(best_many(sale, bids), best)

    def test_no_bids(self):
        self.check(LAMP, [], [""] * 6, [5] * 6, 1)
        self.check((STEPS, 5, 30), [], [""] * 6, [30] * 6, 1)

    def test_one_bid(self):
        self.check(LAMP, [("c", 20)], ["c"] * 6, [5] * 6, 1)
        self.check(LAMP, [("c", 5)], ["c"] * 6, [5] * 6, 1)
        self.check(LAMP, [("c", 4)], [""] * 6, [5] * 6, 1)

    def test_fewer_and_as_many_and_more_bids_than_things(self):
        self.check(LAMP, [("a", 20), ("b", 15), ("c", 12)],
                   ["a", "ab", "abc", "abc", "abc", "abc"], [15, 12, 5, 5, 5, 5], 2)

    def test_earlier_one_of_equal_amounts(self):
        after = ["abc"] * 4
        prices = [15, 15, 5, 5, 5, 5]
        self.check(LAMP, BIDS, ["a", "ab"] + after, prices, 2)
        self.check(LAMP, [("a", 20), ("c", 15), ("b", 15)], ["a", "ac"] + after, prices, 2)
        self.check(LAMP, [("c", 15), ("b", 15), ("a", 20)], ["a", "ac"] + after, prices, 2)
        self.check(LAMP, [("b", 15), ("a", 20), ("c", 15)], ["a", "ab"] + after, prices, 2)

    def test_all_equal(self):
        bids = [(letter, 10) for letter in "fedcba"]
        self.check(LAMP, bids, ["f", "ef", "def", "cdef", "bcdef", "abcdef"],
                   [10, 10, 10, 10, 10, 5], 5)

    def test_all_equal_to_the_reserve(self):
        bids = [(letter, 30) for letter in "bdface"]
        self.check((STEPS, 5, 30), bids, ["b", "bd", "bdf", "abdf", "abcdf", "abcdef"],
                   [30] * 6, 6)

    def test_six_bidders(self):
        self.check(LAMP, SIX, ["a", "ab", "abc", "abcd", "abcde", "abcdef"],
                   [50, 40, 30, 20, 10, 5], 3)

    def test_below_the_reserve(self):
        bids = [("a", 20), ("b", 14), ("c", 15)]
        self.check((STEPS, 5, 15), bids, ["a"] + ["ac"] * 5, [15] * 6, 2)
        self.check((STEPS, 5, 14), bids, ["a", "ac"] + ["abc"] * 4, [15] + [14] * 5, 3)
        self.check((STEPS, 5, 16), bids, ["a"] * 6, [16] * 6, 1)

    def test_bid_that_does_not_count_gives_no_price(self):
        # Neither the bid of b nor the one of c is at least reserve.
        self.check((STEPS, 5, 30), [("b", 29), ("a", 40), ("c", 20)], ["a"] * 6, [30] * 6, 1)

    def test_none_counts(self):
        self.check((STEPS, 5, 21), [("a", 20), ("b", 15)], [""] * 6, [21] * 6, 1)
        self.check((STEPS, 5, 200), [("a", 199), ("b", 199)], [""] * 6, [200] * 6, 1)

    def test_bids_that_a_sale_would_refuse_count(self):
        # The steps do not matter here.
        self.check((((0, 50),), 5, 5), [("a", 20), ("b", 21), ("c", 19)],
                   ["b", "ab"] + ["abc"] * 4, [20, 19, 5, 5, 5, 5], 2)

    def test_amounts_of_200(self):
        self.check(LAMP, [("a", 200), ("b", 200)], ["a"] + ["ab"] * 5, [200] + [5] * 5, 1)
        self.check((STEPS, 5, 200), [("b", 200), ("a", 200)], ["b"] + ["ab"] * 5, [200] * 6, 2)


class BestMany(unittest.TestCase):
    def test_first_of_several(self):
        # 10 for one thing and 5 + 5 for two.
        self.assertEqual(best_many(LAMP, [("a", 20), ("b", 10)]), 1)
        # 12, 6 + 6 and 5 + 5 + 5.
        self.assertEqual(best_many(LAMP, [("a", 20), ("b", 12), ("c", 6)]), 3)
        # 15, 7 + 7 and 5 + 5 + 5.
        self.assertEqual(best_many(LAMP, [("a", 20), ("b", 15), ("c", 7)]), 1)

    def test_each_number(self):
        for best in range(1, 6):
            bids = [(letter, 100) for letter in "abcdef"[:best + 1]]
            self.assertEqual(best_many(LAMP, bids), best)
        self.assertEqual(best_many(LAMP, [(letter, 5) for letter in "abcdef"]), 6)


def six_cases():
    """Yield sales with 6 bids, most of which count, so that many things can be sold."""
    source = random.Random(67)
    for _ in range(500):
        least = source.randint(1, 40)
        amounts = [source.randint(max(1, least - 3), least + 30) for _ in range(6)]
        yield (STEPS, 1, least), list(zip(source.sample("abcdef", 6), amounts))


def amount_of(bid):
    return bid[1]


def sold(sale, bids, many):
    """Return winners and price, by giving away one thing after the other."""
    left = [bid for bid in bids if bid[1] >= sale[2]]
    winners = []
    while left and len(winners) < many:
        # max takes the earliest one of the greatest amounts.
        best = max(left, key=amount_of)
        left.remove(best)
        winners.append(best[0])
    return "".join(sorted(winners)), max([bid[1] for bid in left], default=sale[2])


class AsTheTextSays(unittest.TestCase):
    def test_all_functions(self):
        bests = {}
        for sale, bids in itertools.chain(single_cases(), six_cases()):
            incomes = []
            before = None
            for many in range(1, 7):
                winners, price = sold(sale, bids, many)
                case = (sale, bids, many)
                self.assertEqual(sold_to(sale, bids, many), winners, case)
                self.assertEqual(common_price(sale, bids, many), price, case)
                self.assertEqual(income(sale, bids, many), price * len(winners), case)
                # The more things are sold, the less is the common price, or it is equal.
                if before is not None:
                    self.assertLessEqual(common_price(sale, bids, many), before, case)
                before = common_price(sale, bids, many)
                incomes.append(price * len(winners))
            best = incomes.index(max(incomes)) + 1
            self.assertEqual(best_many(sale, bids), best, (sale, bids))
            bests[best] = bests.get(best, 0) + 1
        self.assertEqual(sorted(bests), [1, 2, 3, 4, 5, 6])


if __name__ == "__main__":
    unittest.main()
