"""[12.1]: the naive functions, against the other ones and against the second writing."""

import itertools
import unittest

from model import Model
from proxybids.further import least_leading
from proxybids.naive import naive_leading, naive_sold
from proxybids.several import sold_to
from samples import LAMP, further_cases, large_cases, single_cases, small_cases

STEPS = LAMP[0]
SIX = [("c", 40), ("a", 60), ("f", 10), ("b", 50), ("e", 20), ("d", 30)]


class Examples(unittest.TestCase):
    def test_naive_leading(self):
        self.assertEqual(naive_leading(LAMP, [("a", 20), ("b", 15)], "b"), 21)

    def test_naive_sold(self):
        self.assertEqual(naive_sold(LAMP, [("a", 20), ("b", 15), ("c", 15)], 2), "ab")


class Leading(unittest.TestCase):
    def check(self, bids, bidder, amount, sale=LAMP):
        with self.subTest(sale=sale, bids=bids, bidder=bidder):
            self.assertEqual(naive_leading(sale, bids, bidder), amount)
            self.assertEqual(least_leading(sale, bids, bidder), amount)

    def test_no_leader(self):
        self.check([], "a", 5)
        self.check([("a", 4)], "a", 5)
        self.check([], "a", 100, (((0, 50),), 100, 200))

    def test_leader(self):
        self.check([("a", 20), ("b", 15)], "a", 0)
        self.check([("a", 200)], "a", 0)

    def test_next_price_is_greater(self):
        self.check([("a", 5)], "b", 15, (((0, 10),), 5, 5))

    def test_none(self):
        self.check([("a", 200)], "b", None)
        self.check([("a", 199)], "b", 200)
        self.check([("a", 151)], "b", None, (((0, 50),), 100, 151))

    def test_eight_bids(self):
        self.check([("a", 20)] * 7 + [("b", 30)], "c", 31)

    def test_many(self):
        kinds = {"leads": 0, "none": 0, "other": 0}
        cases = list(small_cases())[::29] + list(large_cases())[::5]
        for sale, bids in cases:
            for bidder in "abcf":
                found = naive_leading(sale, bids, bidder)
                self.assertEqual(found, least_leading(sale, bids, bidder), (sale, bids, bidder))
                kinds["leads" if found == 0 else "none" if found is None else "other"] += 1
        self.assertGreater(min(kinds.values()), 100)

    def test_as_the_text_says(self):
        for sale, bids in itertools.islice(further_cases(), 0, None, 20):
            for bidder in "ab":
                amounts = [amount for amount in range(1, 201)
                           if Model(sale, bids + [(bidder, amount)]).leader == bidder]
                expected = amounts[0] if amounts else None
                if Model(sale, bids).leader == bidder:
                    expected = 0
                self.assertEqual(naive_leading(sale, bids, bidder), expected, (sale, bids))


class Sold(unittest.TestCase):
    def check(self, sale, bids, winners):
        for many in range(1, 7):
            with self.subTest(sale=sale, bids=bids, many=many):
                self.assertEqual(naive_sold(sale, bids, many), winners[many - 1])
                self.assertEqual(sold_to(sale, bids, many), winners[many - 1])

    def test_numbers_of_bids(self):
        self.check(LAMP, [], [""] * 6)
        self.check(LAMP, [("c", 5)], ["c"] * 6)
        self.check(LAMP, SIX, ["a", "ab", "abc", "abcd", "abcde", "abcdef"])

    def test_equal_amounts(self):
        self.check(LAMP, [("a", 20), ("c", 15), ("b", 15)], ["a", "ac"] + ["abc"] * 4)
        self.check(LAMP, [(letter, 9) for letter in "fbeadc"],
                   ["f", "bf", "bef", "abef", "abdef", "abcdef"])

    def test_reserve(self):
        self.check((STEPS, 5, 15), [("a", 20), ("b", 14), ("c", 15)], ["a"] + ["ac"] * 5)
        self.check((STEPS, 5, 21), [("a", 20), ("b", 15)], [""] * 6)

    def test_many(self):
        for sale, bids in single_cases():
            for many in range(1, 7):
                case = (sale, bids, many)
                self.assertEqual(naive_sold(*case), sold_to(*case), case)


if __name__ == "__main__":
    unittest.main()
