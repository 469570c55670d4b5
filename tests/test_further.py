"""[4.1] to [4.3]: a further bid."""

import unittest

from model import Model
from proxybids.errors import InvalidBid, InvalidBidder, InvalidBids, InvalidSale
from proxybids.further import greatest_price, least_accepted, least_leading, price_with
from samples import (LAMP, NOT_BID_LISTS, NOT_BIDDERS, NOT_BIDS, NOT_INTEGERS, NOT_SALES,
                     further_cases)

STEPS = LAMP[0]
BIDS = [("a", 20), ("b", 15)]
TEN = (((0, 10),), 5, 5)
EIGHT = [("a", 10), ("b", 20), ("a", 30), ("a", 40), ("c", 35), ("b", 50), ("b", 50), ("f", 9)]


def accepted(sale, bids, bid):
    """Return whether a further bid is not refused, by the second writing of [0.6]."""
    return len(bids) not in Model(sale, bids + [bid]).refused


def first(amounts):
    """Return the first of the amounts, or None if there are none."""
    return next(iter(amounts), None)


class Examples(unittest.TestCase):
    def test_least_leading(self):
        self.assertEqual(least_leading(LAMP, BIDS, "b"), 21)

    def test_price_with(self):
        self.assertEqual(price_with(LAMP, BIDS, ("c", 19)), 20)

    def test_greatest_price(self):
        self.assertEqual(greatest_price(LAMP, BIDS), 20)


class Least(unittest.TestCase):
    def check(self, sale, bids, bidder, taken, leading):
        with self.subTest(sale=sale, bids=bids, bidder=bidder):
            self.assertEqual(least_accepted(sale, bids, bidder), taken)
            self.assertEqual(least_leading(sale, bids, bidder), leading)

    def test_no_leader(self):
        for bids in ([], [("a", 4)], [("a", 4), ("b", 1)]):
            for letter in "abf":
                self.check(LAMP, bids, letter, 5, 5)
        self.check((((0, 1),), 1, 1), [], "a", 1, 1)
        self.check((((0, 50),), 100, 200), [("a", 99)], "a", 100, 100)

    def test_leader(self):
        self.check(LAMP, BIDS, "a", 21, 0)
        self.check(LAMP, [("a", 5)], "a", 6, 0)
        self.check(TEN, [("a", 5)], "a", 6, 0)

    def test_has_bid_and_does_not_lead(self):
        self.check(LAMP, BIDS, "b", 19, 21)
        self.check(LAMP, [("a", 20), ("b", 30)], "a", 24, 31)

    def test_has_not_bid(self):
        for letter in "cdef":
            self.check(LAMP, BIDS, letter, 19, 21)

    def test_next_price_is_greater_than_the_leaders_amount(self):
        self.check(TEN, [("a", 5)], "b", 15, 15)
        self.check(TEN, [("a", 14)], "b", 15, 15)
        self.check(TEN, [("a", 15)], "b", 15, 16)
        self.check(TEN, [("a", 16)], "b", 15, 17)

    def test_leaders_amount_of_200(self):
        self.check(LAMP, [("a", 200)], "a", None, 0)
        self.check(LAMP, [("a", 200)], "b", 6, None)
        self.check(LAMP, [("a", 199)], "a", 200, 0)
        self.check(LAMP, [("a", 199)], "b", 6, 200)
        self.check(LAMP, [("a", 200), ("b", 200)], "b", None, None)

    def test_next_price_of_200(self):
        sale = (((0, 50),), 100, 150)
        self.check(sale, [("a", 200)], "b", 200, None)
        self.check(sale, [("a", 199)], "b", 200, 200)
        self.check(sale, [("a", 150)], "b", 200, 200)

    def test_next_price_greater_than_200(self):
        sale = (((0, 50),), 100, 151)
        self.check(sale, [("a", 151)], "b", None, None)
        self.check(sale, [("a", 200)], "b", None, None)
        self.check(sale, [("a", 199)], "a", 200, 0)
        self.check(sale, [("a", 200)], "a", None, 0)

    def test_eight_bids(self):
        # The state is ("b", 42, 50).
        self.check(LAMP, EIGHT, "b", 51, 0)
        self.check(LAMP, EIGHT, "a", 44, 51)
        self.check(LAMP, EIGHT, "d", 44, 51)


class PriceWith(unittest.TestCase):
    def check(self, sale, bids, prices):
        for bid, price in prices:
            with self.subTest(sale=sale, bids=bids, bid=bid):
                self.assertEqual(price_with(sale, bids, bid), price)

    def test_no_leader(self):
        self.check(LAMP, [], [(("a", 4), 0), (("a", 5), 5), (("a", 200), 5), (("f", 1), 0)])

    def test_bid_of_the_leader(self):
        self.check(LAMP, BIDS, [(("a", 1), 17), (("a", 20), 17), (("a", 21), 17), (("a", 200), 17)])

    def test_bid_of_another(self):
        for letter in "bc":
            self.check(LAMP, BIDS, [((letter, 1), 17), ((letter, 18), 17), ((letter, 19), 20),
                                    ((letter, 20), 20), ((letter, 21), 21), ((letter, 22), 22),
                                    ((letter, 23), 22), ((letter, 200), 22)])

    def test_reserve_that_is_reached(self):
        sale = (STEPS, 5, 30)
        self.check(sale, [("a", 20)], [(("b", 29), 22), (("b", 30), 30), (("b", 50), 30),
                                       (("a", 29), 5), (("a", 30), 30), (("a", 50), 30)])
        self.check(sale, [], [(("a", 29), 5), (("a", 30), 30), (("a", 31), 30)])

    def test_ends_of_the_amounts(self):
        self.check((((0, 1),), 1, 1), [], [(("a", 1), 1), (("a", 200), 1)])
        self.check(LAMP, [("a", 200)], [(("b", 200), 200), (("b", 195), 200), (("b", 194), 199)])

    def test_eight_bids(self):
        self.check(LAMP, EIGHT, [(("d", 43), 42), (("d", 44), 46), (("d", 51), 51), (("d", 90), 55),
                                 (("b", 60), 42)])


class GreatestPrice(unittest.TestCase):
    def check(self, sale, bids, price):
        with self.subTest(sale=sale, bids=bids):
            self.assertEqual(greatest_price(sale, bids), price)

    def test_no_leader(self):
        self.check(LAMP, [], None)
        self.check(LAMP, [("a", 4)], None)

    def test_no_room(self):
        self.check(LAMP, [("a", 5)], None)
        self.check(TEN, [("a", 14)], None)
        self.check(LAMP, [("a", 20), ("b", 20)], None)
        # The price is 19, and 21 would be the next one.
        self.check(LAMP, [("a", 20), ("b", 17)], None)

    def test_just_room(self):
        self.check(LAMP, [("a", 6)], 6)
        self.check(TEN, [("a", 15)], 15)
        self.check(LAMP, [("a", 20), ("b", 16)], 20)

    def test_room(self):
        self.check(LAMP, [("a", 20)], 20)
        self.check(LAMP, [("a", 200)], 200)
        self.check(LAMP, [("a", 20), ("b", 15), ("a", 90)], 90)
        self.check(LAMP, EIGHT, 50)

    def test_reserve(self):
        self.check((STEPS, 5, 30), [("a", 29)], 29)
        self.check((STEPS, 5, 30), [("a", 30)], None)
        self.check((STEPS, 5, 30), [("a", 31)], None)
        self.check((STEPS, 5, 30), [("a", 32)], 32)

    def test_near_200(self):
        self.check((((0, 50),), 100, 150), [("a", 200)], 200)
        self.check((((0, 50),), 100, 150), [("a", 199)], None)
        self.check((((0, 50),), 100, 151), [("a", 200)], None)


class AsTheTextSays(unittest.TestCase):
    """All amounts are tried."""

    def test_least(self):
        for sale, bids in further_cases():
            leader = Model(sale, bids).leader
            for letter in "abf":
                case = (sale, bids, letter)
                expected = first(amount for amount in range(1, 201)
                                 if accepted(sale, bids, (letter, amount)))
                self.assertEqual(least_accepted(sale, bids, letter), expected, case)
                expected = 0 if letter == leader else first(
                    amount for amount in range(1, 201)
                    if Model(sale, bids + [(letter, amount)]).leader == letter)
                self.assertEqual(least_leading(sale, bids, letter), expected, case)

    def test_price_with(self):
        for sale, bids in further_cases():
            for bid in [(letter, amount) for letter in "abf" for amount in range(1, 201, 7)]:
                expected = Model(sale, bids + [bid]).price
                self.assertEqual(price_with(sale, bids, bid), expected, (sale, bids, bid))

    def test_greatest_price(self):
        found = 0
        for sale, bids in further_cases():
            leader = Model(sale, bids).leader
            other = "b" if leader == "a" else "a"
            prices = []
            for bid in [(other, amount) for amount in range(1, 201)] if leader else []:
                model = Model(sale, bids + [bid])
                if model.leader == leader and len(bids) not in model.refused:
                    prices.append(model.price)
            expected = max(prices, default=None)
            self.assertEqual(greatest_price(sale, bids), expected, (sale, bids))
            found += bool(prices)
        self.assertGreater(found, 500)


class WrongInputs(unittest.TestCase):
    thirds = [(least_accepted, "a"), (least_leading, "a"), (price_with, ("a", 30))]
    wrongs = [(least_accepted, NOT_BIDDERS, InvalidBidder),
              (least_leading, NOT_BIDDERS, InvalidBidder), (price_with, NOT_BIDS, InvalidBid)]

    def calls(self):
        """Return functions of a sale and bids."""
        calls = [greatest_price]
        for function, third in self.thirds:
            calls.append(lambda sale, bids, f=function, right=third: f(sale, bids, right))
            for wrong in (None, True, "g", ("a", 0), [5]):
                calls.append(lambda sale, bids, f=function, wrong=wrong: f(sale, bids, wrong))
        return calls

    def test_wrong_sale(self):
        for call in self.calls():
            for wrong in NOT_SALES + NOT_INTEGERS:
                for bids in ([], BIDS, None, [("a", 0)]):
                    with self.subTest(wrong=wrong, bids=bids), self.assertRaises(InvalidSale):
                        call(wrong, bids)

    def test_wrong_bids(self):
        nine = [("a", 20)] * 9
        wrong_lists = NOT_BID_LISTS + [nine, [("a", 0)], [("a", 201)]]
        wrong_lists += [[("a", 20), ("b", wrong)] for wrong in NOT_INTEGERS]
        wrong_lists += [[("a", 20), (wrong, 30)] for wrong in NOT_BIDDERS]
        for call in self.calls():
            for wrong in wrong_lists:
                with self.subTest(wrong), self.assertRaises(InvalidBids):
                    call(LAMP, wrong)

    def test_wrong_bidder_or_bid(self):
        for function, wrongs, error in self.wrongs:
            for wrong in wrongs + [value for value in NOT_INTEGERS if value != "a"]:
                for bids in ([], BIDS, EIGHT, [("a", 4)]):
                    with self.subTest(function=function, wrong=wrong, bids=bids):
                        self.assertRaises(error, function, LAMP, bids, wrong)

    def test_wrong_parts_of_a_bid(self):
        for wrong in NOT_INTEGERS + [0, 201, -1, 10 ** 30]:
            with self.subTest(wrong), self.assertRaises(InvalidBid):
                price_with(LAMP, BIDS, ("c", wrong))
        for wrong in NOT_BIDDERS:
            with self.subTest(wrong), self.assertRaises(InvalidBid):
                price_with(LAMP, BIDS, (wrong, 30))


if __name__ == "__main__":
    unittest.main()
