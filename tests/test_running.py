"""[0.6], [0.7] and [2.1] to [2.3]: what happens in a sale."""

import unittest

from proxybids.errors import InvalidBids, InvalidSale
from proxybids.running import leads, refused, result, states, winner
from samples import LAMP, NOT_BID_LISTS, NOT_BIDDERS, NOT_INTEGERS, NOT_SALES

STEPS = LAMP[0]
FUNCTIONS = [result, states, refused, winner, leads]


class Examples(unittest.TestCase):
    def test_result(self):
        self.assertEqual(result(LAMP, [("a", 20), ("b", 15)]), ("a", 17, 20))

    def test_refused(self):
        self.assertEqual(refused(LAMP, [("a", 20), ("b", 15), ("c", 18), ("a", 20)]), [2, 3])

    def test_leads(self):
        self.assertEqual(leads(LAMP, [("a", 20), ("b", 15), ("b", 30)]), [1, 1, 2])


class NoBids(unittest.TestCase):
    def test_no_bids(self):
        self.assertEqual(result(LAMP, []), ("", 0, 0))
        self.assertEqual(states(LAMP, []), [])
        self.assertEqual(refused(LAMP, []), [])
        self.assertIs(winner(LAMP, []), None)
        self.assertEqual(leads(LAMP, []), [])


class Rules(unittest.TestCase):
    """Each rule of [0.6], with states that were worked out by hand."""

    def check(self, sale, bids, expected, out=()):
        with self.subTest(sale=sale, bids=bids):
            self.assertEqual(states(sale, bids), expected)
            self.assertEqual(refused(sale, bids), list(out))
            self.assertEqual(result(sale, bids), expected[-1])

    def test_bids_before_the_first_leader(self):
        self.check(LAMP, [("a", 4)], [("", 0, 0)], [0])
        self.check(LAMP, [("a", 5)], [("a", 5, 5)])
        self.check(LAMP, [("a", 6)], [("a", 5, 6)])
        self.check(LAMP, [("a", 4), ("b", 1), ("a", 4), ("b", 5)],
                   [("", 0, 0)] * 3 + [("b", 5, 5)], [0, 1, 2])
        self.check(LAMP, [("a", 4), ("a", 200)], [("", 0, 0), ("a", 5, 200)], [0])

    def test_first_bid_is_not_measured_by_the_next_price(self):
        self.check((((0, 50),), 5, 5), [("a", 5)], [("a", 5, 5)])
        self.check((((0, 1),), 100, 100), [("a", 99), ("b", 100)],
                   [("", 0, 0), ("b", 100, 100)], [0])

    def test_bid_of_the_leader(self):
        self.check(LAMP, [("a", 20), ("a", 19)], [("a", 5, 20)] * 2, [1])
        self.check(LAMP, [("a", 20), ("a", 20)], [("a", 5, 20)] * 2, [1])
        self.check(LAMP, [("a", 20), ("a", 21)], [("a", 5, 20), ("a", 5, 21)])
        self.check(LAMP, [("a", 20), ("a", 200)], [("a", 5, 20), ("a", 5, 200)])

    def test_bid_of_the_leader_may_be_less_than_the_next_price(self):
        sale = (((0, 10),), 5, 5)
        self.check(sale, [("a", 5), ("a", 6)], [("a", 5, 5), ("a", 5, 6)])

    def test_price_stays_when_the_leader_bids_more(self):
        self.check(LAMP, [("a", 20), ("b", 15), ("a", 40)],
                   [("a", 5, 20), ("a", 17, 20), ("a", 17, 40)])

    def test_another_bid_around_the_next_price(self):
        self.check(LAMP, [("a", 20), ("b", 5)], [("a", 5, 20)] * 2, [1])
        self.check(LAMP, [("a", 20), ("b", 6)], [("a", 5, 20), ("a", 7, 20)])
        self.check(LAMP, [("a", 20), ("b", 15), ("c", 18)],
                   [("a", 5, 20), ("a", 17, 20), ("a", 17, 20)], [2])
        self.check(LAMP, [("a", 20), ("b", 15), ("c", 19)],
                   [("a", 5, 20), ("a", 17, 20), ("a", 20, 20)])

    def test_greater_than_the_leaders_amount_but_less_than_the_next_price(self):
        sale = (((0, 10),), 5, 5)
        self.check(sale, [("a", 5), ("b", 14)], [("a", 5, 5)] * 2, [1])
        self.check(sale, [("a", 5), ("b", 15)], [("a", 5, 5), ("b", 15, 15)])
        self.check(sale, [("a", 5), ("b", 16)], [("a", 5, 5), ("b", 15, 16)])

    def test_below_the_leaders_amount(self):
        # The next price after the bid is less, equal and greater than the amount 20.
        self.check(LAMP, [("a", 20), ("b", 17)], [("a", 5, 20), ("a", 19, 20)])
        self.check(LAMP, [("a", 20), ("b", 18)], [("a", 5, 20), ("a", 20, 20)])
        self.check(LAMP, [("a", 20), ("b", 19)], [("a", 5, 20), ("a", 20, 20)])

    def test_at_the_leaders_amount(self):
        self.check(LAMP, [("a", 20), ("b", 20)], [("a", 5, 20), ("a", 20, 20)])
        self.check(LAMP, [("a", 6), ("b", 6)], [("a", 5, 6), ("a", 6, 6)])
        self.check(LAMP, [("a", 5), ("b", 5)], [("a", 5, 5), ("a", 5, 5)], [1])

    def test_above_the_leaders_amount(self):
        # The next price after the amount 20 is 22: greater, equal and less than the bid.
        self.check(LAMP, [("a", 20), ("b", 21)], [("a", 5, 20), ("b", 21, 21)])
        self.check(LAMP, [("a", 20), ("b", 22)], [("a", 5, 20), ("b", 22, 22)])
        self.check(LAMP, [("a", 20), ("b", 23)], [("a", 5, 20), ("b", 22, 23)])
        self.check(LAMP, [("a", 20), ("b", 200)], [("a", 5, 20), ("b", 22, 200)])

    def test_step_of_the_amount_that_counts(self):
        # Across a bound: the step is that of the bid, or of the old leader's amount.
        self.check(LAMP, [("a", 60), ("b", 49)], [("a", 5, 60), ("a", 51, 60)])
        self.check(LAMP, [("a", 60), ("b", 50)], [("a", 5, 60), ("a", 55, 60)])
        self.check(LAMP, [("a", 49), ("b", 60)], [("a", 5, 49), ("b", 51, 60)])
        self.check(LAMP, [("a", 50), ("b", 60)], [("a", 5, 50), ("b", 55, 60)])

    def test_step_of_the_price_that_refuses(self):
        bids = [("a", 100), ("b", 49), ("c", 54), ("c", 55), ("c", 56)]
        self.check(LAMP, bids, [("a", 5, 100), ("a", 51, 100), ("a", 51, 100), ("a", 51, 100),
                                ("a", 61, 100)], [2, 3])
        bids = [("a", 100), ("b", 47), ("c", 50), ("c", 51)]
        self.check(LAMP, bids, [("a", 5, 100), ("a", 49, 100), ("a", 49, 100), ("a", 56, 100)],
                   [2])

    def test_greatest_amounts(self):
        self.check(LAMP, [("a", 200), ("b", 200), ("c", 200), ("a", 200)],
                   [("a", 5, 200), ("a", 200, 200), ("a", 200, 200), ("a", 200, 200)], [2, 3])
        self.check(LAMP, [("a", 199), ("b", 200)], [("a", 5, 199), ("b", 200, 200)])

    def test_eight_bids(self):
        bids = [("a", 3), ("b", 30), ("c", 10), ("d", 40), ("b", 33), ("b", 50), ("e", 50), ("d", 9)]
        self.check(LAMP, bids, [("", 0, 0), ("b", 5, 30), ("b", 12, 30), ("d", 32, 40),
                                ("d", 32, 40), ("b", 42, 50), ("b", 50, 50), ("b", 50, 50)],
                   [0, 4, 7])


class Reserve(unittest.TestCase):
    sale = (STEPS, 5, 30)

    def check(self, bids, expected, out=(), wins=None):
        with self.subTest(bids):
            self.assertEqual(states(self.sale, bids), expected)
            self.assertEqual(refused(self.sale, bids), list(out))
            self.assertEqual(winner(self.sale, bids), wins)

    def test_not_reached(self):
        self.check([("a", 29)], [("a", 5, 29)])
        self.check([("a", 20), ("b", 29)], [("a", 5, 20), ("b", 22, 29)])
        self.check([("a", 29), ("b", 29)], [("a", 5, 29), ("a", 29, 29)])

    def test_reached_by_the_first_bid(self):
        self.check([("a", 30)], [("a", 30, 30)], wins="a")
        self.check([("a", 31)], [("a", 30, 31)], wins="a")
        self.check([("a", 4), ("b", 30)], [("", 0, 0), ("b", 30, 30)], [0], "b")

    def test_reached_by_the_leader(self):
        self.check([("a", 20), ("a", 29)], [("a", 5, 20), ("a", 5, 29)])
        self.check([("a", 20), ("a", 30)], [("a", 5, 20), ("a", 30, 30)], wins="a")
        self.check([("a", 20), ("a", 50)], [("a", 5, 20), ("a", 30, 50)], wins="a")

    def test_reached_by_another(self):
        self.check([("a", 20), ("b", 30)], [("a", 5, 20), ("b", 30, 30)], wins="b")
        self.check([("a", 20), ("b", 50)], [("a", 5, 20), ("b", 30, 50)], wins="b")
        self.check([("a", 29), ("b", 50)], [("a", 5, 29), ("b", 31, 50)], wins="b")

    def test_price_at_the_reserve_already(self):
        self.check([("a", 28), ("b", 50)], [("a", 5, 28), ("b", 30, 50)], wins="b")
        self.check([("a", 50), ("b", 31)], [("a", 30, 50)] * 2, [1], "a")
        self.check([("a", 50), ("b", 32)], [("a", 30, 50), ("a", 34, 50)], wins="a")
        self.check([("a", 50), ("a", 60)], [("a", 30, 50), ("a", 30, 60)], wins="a")

    def test_bids_below_the_reserve_are_refused_once_it_is_reached(self):
        self.check([("a", 30), ("b", 29)], [("a", 30, 30)] * 2, [1], "a")

    def test_reserve_equal_to_start_and_greatest(self):
        self.assertEqual(states((STEPS, 5, 5), [("a", 5)]), [("a", 5, 5)])
        self.assertEqual(states((STEPS, 5, 200), [("a", 199), ("a", 200)]),
                         [("a", 5, 199), ("a", 200, 200)])


class Winner(unittest.TestCase):
    def test_no_leader(self):
        self.assertIs(winner(LAMP, [("a", 4)]), None)
        self.assertIs(winner((((0, 1),), 1, 1), []), None)

    def test_reserve(self):
        sale = (STEPS, 5, 20)
        self.assertIs(winner(sale, [("a", 19)]), None)
        self.assertEqual(winner(sale, [("a", 20)]), "a")
        self.assertEqual(winner(sale, [("a", 19), ("b", 20)]), "b")
        self.assertEqual(winner(sale, [("a", 20), ("b", 20)]), "a")

    def test_refused_bid_does_not_win(self):
        # The bid of b is at least reserve, but less than the next price.
        sale = (((0, 50),), 5, 20)
        self.assertIs(winner(sale, [("a", 5), ("b", 20)]), None)


class Leads(unittest.TestCase):
    def test_without_leader(self):
        self.assertEqual(leads(LAMP, [("a", 4), ("b", 4)]), [0, 0])
        self.assertEqual(leads(LAMP, [("a", 4), ("b", 5), ("b", 6)]), [0, 1, 1])

    def test_change_to_and_fro(self):
        bids = [("a", 10), ("b", 20), ("a", 30), ("a", 40), ("c", 35), ("b", 50), ("b", 50)]
        self.assertEqual(leads(LAMP, bids), [1, 2, 3, 3, 3, 4, 4])


class WrongInputs(unittest.TestCase):
    def test_wrong_sale(self):
        for function in FUNCTIONS:
            for wrong in NOT_SALES + NOT_INTEGERS:
                with self.subTest(function=function, wrong=wrong), self.assertRaises(InvalidSale):
                    function(wrong, [("a", 20)])

    def test_wrong_sale_without_bids(self):
        for function in FUNCTIONS:
            with self.subTest(function), self.assertRaises(InvalidSale):
                function((STEPS, 5, 4), [])

    def test_wrong_bids(self):
        nine = [("a", 20 + number) for number in range(9)]
        for function in FUNCTIONS:
            for wrong in NOT_BID_LISTS + [nine, [("a", 0)], [("a", 201)]]:
                with self.subTest(function=function, wrong=wrong), self.assertRaises(InvalidBids):
                    function(LAMP, wrong)

    def test_wrong_bid_among_good_ones(self):
        wrong_bids = [("b", wrong) for wrong in NOT_INTEGERS + [0, 201, -1]]
        wrong_bids += [(wrong, 30) for wrong in NOT_BIDDERS]
        for function in FUNCTIONS:
            for wrong in wrong_bids:
                with self.subTest(function=function, wrong=wrong), self.assertRaises(InvalidBids):
                    function(LAMP, [("a", 20), wrong, ("c", 40)])

    def test_sale_comes_first(self):
        for function in FUNCTIONS:
            for wrong in NOT_BID_LISTS:
                with self.subTest(function=function, wrong=wrong), self.assertRaises(InvalidSale):
                    function(None, wrong)


if __name__ == "__main__":
    unittest.main()
