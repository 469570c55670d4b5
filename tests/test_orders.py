"""[3.1] to [3.3]: what other orders of arrival lead to."""

import itertools
import unittest

from model import Model
from proxybids.errors import InvalidBids, InvalidSale, Repeated
from proxybids.orders import (are_single, cheapest_order, dearest_order, does_order_matter,
                              possible_prices, possible_winners)
from proxybids.running import refused
from samples import (LAMP, NOT_BID_LISTS, NOT_BIDDERS, NOT_INTEGERS, NOT_SALES,
                     single_cases)

STEPS = LAMP[0]
FUNCTIONS = [possible_winners, possible_prices, does_order_matter, dearest_order, cheapest_order]
TWICE = [("a", 20), ("b", 15), ("a", 30)]


class Examples(unittest.TestCase):
    bids = [("a", 11), ("b", 10), ("c", 10)]

    def test_winners(self):
        self.assertEqual(possible_winners(LAMP, self.bids), ["a", "b", "c"])

    def test_prices(self):
        self.assertEqual(possible_prices(LAMP, self.bids), [10, 11])

    def test_cheapest(self):
        self.assertEqual(cheapest_order(LAMP, self.bids), [("b", 10), ("c", 10), ("a", 11)])

    def test_the_other_functions(self):
        self.assertIs(does_order_matter(LAMP, self.bids), True)
        self.assertEqual(dearest_order(LAMP, self.bids), self.bids)


class AreSingle(unittest.TestCase):
    def test_single(self):
        for bids in [[], [("a", 1)], [("a", 5), ("b", 5)], [("f", 200), ("a", 1), ("c", 3)],
                     [(letter, 5) for letter in "abcdef"], [(letter, 5) for letter in "fbdace"]]:
            with self.subTest(bids):
                self.assertIs(are_single(bids), True)

    def test_twice(self):
        six = [(letter, 5) for letter in "abcdef"]
        for bids in [[("a", 5), ("a", 5)], [("a", 5), ("a", 6)], TWICE, [("a", 5)] * 8,
                     [("b", 7), ("a", 5), ("c", 9), ("d", 1), ("a", 8)],
                     six + [("f", 9)], six + [("a", 5)], six + [("c", 1), ("d", 1)]]:
            with self.subTest(bids):
                self.assertIs(are_single(bids), False)

    def test_not_bids(self):
        seven = [(letter, 5) for letter in "abcdefg"]
        nine = [("a", 5)] * 9
        for wrong in NOT_BID_LISTS + [seven, nine, [("a", 0)], [("a", 201)], [("a", True)]]:
            with self.subTest(wrong), self.assertRaises(InvalidBids):
                are_single(wrong)

    def test_not_bids_at_any_place(self):
        for wrong in NOT_INTEGERS:
            with self.subTest(wrong), self.assertRaises(InvalidBids):
                are_single([("a", 5), ("b", wrong)])
            with self.subTest(wrong), self.assertRaises(InvalidBids):
                are_single([("a", 5), wrong])
        for wrong in NOT_BIDDERS:
            with self.subTest(wrong), self.assertRaises(InvalidBids):
                are_single([("a", 5), (wrong, 5)])


class Orders(unittest.TestCase):
    """Answers that were worked out by hand."""

    def check(self, sale, bids, winners, prices, matters, dearest=None, cheapest=None):
        first = sorted(bids)
        for given in itertools.permutations(bids):
            given = list(given)
            with self.subTest(sale=sale, bids=given):
                self.assertEqual(possible_winners(sale, given), winners)
                self.assertEqual(possible_prices(sale, given), prices)
                self.assertIs(does_order_matter(sale, given), matters)
                self.assertEqual(dearest_order(sale, given), first if dearest is None else dearest)
                self.assertEqual(cheapest_order(sale, given),
                                 first if cheapest is None else cheapest)

    def test_no_bids(self):
        self.check(LAMP, [], [], [0], False)

    def test_one_bid(self):
        self.check(LAMP, [("c", 7)], ["c"], [5], False)
        self.check(LAMP, [("c", 5)], ["c"], [5], False)
        self.check(LAMP, [("c", 4)], [], [0], False)
        self.check((STEPS, 5, 7), [("c", 7)], ["c"], [7], False)
        self.check((STEPS, 5, 7), [("c", 6)], [], [5], False)

    def test_equal_amounts(self):
        # The leader is always the first one; only the price is the same.
        self.check(LAMP, [("a", 10), ("b", 10)], ["a", "b"], [10], True)
        self.check(LAMP, [("f", 10), ("d", 10), ("e", 10)], ["d", "e", "f"], [10], True)

    def test_equal_amounts_at_start(self):
        self.check(LAMP, [("a", 5), ("b", 5)], ["a", "b"], [5], True)

    def test_nothing_depends_on_the_order(self):
        self.check(LAMP, [("a", 20), ("b", 6)], ["a"], [7], False)
        self.check(LAMP, [("a", 20), ("b", 15)], ["a"], [17], False)

    def test_same_leader_but_not_the_same_price(self):
        self.check(LAMP, [("a", 20), ("b", 10), ("c", 11)], ["a"], [12, 13], True,
                   [("a", 20), ("c", 11), ("b", 10)])

    def test_below_start(self):
        self.check(LAMP, [("a", 4), ("b", 20)], ["b"], [5], False)
        self.check(LAMP, [("a", 20), ("b", 4)], ["a"], [5], False)
        self.check(LAMP, [("a", 4), ("b", 3), ("c", 4)], [], [0], False)

    def test_refused_in_some_orders_only(self):
        sale = (((0, 50),), 5, 5)
        self.check(sale, [("a", 10), ("b", 20)], ["a", "b"], [5], True)
        self.check(sale, [("a", 10), ("b", 60)], ["b"], [5, 60], True,
                   [("a", 10), ("b", 60)], [("b", 60), ("a", 10)])

    def test_never_succeeds(self):
        self.check((STEPS, 5, 100), [("a", 20), ("b", 15)], [], [17], False)
        self.check((STEPS, 5, 21), [("a", 11), ("b", 10), ("c", 10)], [], [10, 11], True,
                   cheapest=[("b", 10), ("c", 10), ("a", 11)])

    def test_succeeds_in_some_orders_only(self):
        sale = (((0, 50),), 5, 20)
        self.check(sale, [("a", 5), ("b", 20)], ["b"], [5, 20], True,
                   [("b", 20), ("a", 5)], [("a", 5), ("b", 20)])

    def test_reserve_is_the_price_in_all_orders(self):
        self.check((STEPS, 5, 30), [("a", 20), ("b", 50)], ["b"], [30], False)

    def test_several_dearest_and_several_cheapest(self):
        # Prices of the six orders as they ascend: 11, 11, 11, 10, 11, 10.
        self.check(LAMP, [("a", 11), ("b", 10), ("c", 10)], ["a", "b", "c"], [10, 11], True,
                   [("a", 11), ("b", 10), ("c", 10)], [("b", 10), ("c", 10), ("a", 11)])
        # The same amounts of other bidders: 10, 11, 10, 11, 11, 11.
        self.check(LAMP, [("a", 10), ("b", 10), ("c", 11)], ["a", "b", "c"], [10, 11], True,
                   [("a", 10), ("c", 11), ("b", 10)], [("a", 10), ("b", 10), ("c", 11)])

    def test_python_order_is_that_of_the_bidders(self):
        self.check(LAMP, [("a", 9), ("b", 200), ("c", 10)], ["b"], [10, 12], True,
                   [("a", 9), ("c", 10), ("b", 200)], [("a", 9), ("b", 200), ("c", 10)])


class SixBids(unittest.TestCase):
    def test_far_apart(self):
        bids = [("a", 10), ("b", 20), ("c", 30), ("d", 40), ("e", 50), ("f", 60)]
        self.assertEqual(possible_winners(LAMP, bids), ["f"])
        self.assertEqual(possible_prices(LAMP, bids), [55])
        self.assertIs(does_order_matter(LAMP, bids), False)
        self.assertEqual(dearest_order(LAMP, bids[::-1]), bids)
        self.assertEqual(cheapest_order(LAMP, bids[::-1]), bids)

    def test_all_equal(self):
        bids = [(letter, 10) for letter in "fedcba"]
        self.assertEqual(possible_winners(LAMP, bids), ["a", "b", "c", "d", "e", "f"])
        self.assertEqual(possible_prices(LAMP, bids), [10])
        self.assertIs(does_order_matter(LAMP, bids), True)
        self.assertEqual(dearest_order(LAMP, bids), bids[::-1])
        self.assertEqual(cheapest_order(LAMP, bids), bids[::-1])


class GreatestAmount(unittest.TestCase):
    """[0.2] (c) at its edges."""

    def leaders(self, sale, bids):
        orders = itertools.permutations(bids)
        return sorted({Model(sale, list(order)).leader for order in orders})

    def check(self, sale, bids, leaders):
        self.assertEqual(self.leaders(sale, bids), leaders)
        self.assertEqual(possible_winners(sale, bids), [name for name in leaders if name])

    def test_just_the_next_price(self):
        self.check(LAMP, [("a", 12), ("b", 10), ("c", 10)], ["a"])
        self.check((((0, 10),), 5, 5), [("a", 5), ("b", 15)], ["b"])

    def test_one_less(self):
        self.check(LAMP, [("a", 11), ("b", 10), ("c", 10)], ["a", "b", "c"])
        self.check((((0, 10),), 5, 5), [("a", 5), ("b", 14)], ["a", "b"])

    def test_below_start(self):
        self.check((STEPS, 13, 13), [("a", 12), ("b", 10), ("c", 10)], [""])
        self.check((STEPS, 12, 12), [("a", 12), ("b", 10), ("c", 10)], ["a"])

    def test_one_bid(self):
        self.check(LAMP, [("a", 5)], ["a"])
        self.check(LAMP, [("a", 4)], [""])


class RefusedInOrders(unittest.TestCase):
    def test_below_start_in_every_order(self):
        for sale, bids in single_cases():
            for order in itertools.permutations(bids):
                out = refused(sale, list(order))
                low = [index for index, bid in enumerate(order) if bid[1] < sale[1]]
                self.assertEqual([index for index in low if index in out], low, (sale, order))

    def test_from_start_on_in_some_orders(self):
        sale = (((0, 50),), 5, 5)
        self.assertEqual(refused(sale, [("a", 5), ("b", 54)]), [1])
        self.assertEqual(refused(sale, [("b", 54), ("a", 5)]), [1])
        self.assertEqual(refused(sale, [("a", 5), ("b", 55)]), [])
        self.assertEqual(possible_winners(sale, [("a", 5), ("b", 54)]), ["a", "b"])
        self.assertEqual(possible_winners(sale, [("a", 5), ("b", 55)]), ["b"])


class AsTheTextSays(unittest.TestCase):
    def test_all_functions(self):
        for sale, bids in single_cases():
            orders = sorted(list(order) for order in itertools.permutations(bids))
            models = [Model(sale, order) for order in orders]
            prices = [model.price for model in models]
            winners = {model.winner() for model in models} - {None}
            case = (sale, bids)
            self.assertEqual(possible_winners(sale, bids), sorted(winners), case)
            self.assertEqual(possible_prices(sale, bids), sorted(set(prices)), case)
            matters = any((model.leader, model.price) != (models[0].leader, models[0].price)
                          for model in models)
            self.assertIs(does_order_matter(sale, bids), matters, case)
            dearest = [order for order, price in zip(orders, prices) if price == max(prices)]
            cheapest = [order for order, price in zip(orders, prices) if price == min(prices)]
            self.assertEqual(dearest_order(sale, bids), dearest[0], case)
            self.assertEqual(cheapest_order(sale, bids), cheapest[0], case)

    def test_are_single(self):
        for _, bids in single_cases():
            self.assertIs(are_single(bids), True)


class WrongInputs(unittest.TestCase):
    def test_wrong_sale(self):
        for function in FUNCTIONS:
            for wrong in NOT_SALES + NOT_INTEGERS:
                for bids in ([], [("a", 20)], TWICE, None, ["a"]):
                    with self.subTest(function=function, wrong=wrong, bids=bids):
                        self.assertRaises(InvalidSale, function, wrong, bids)

    def test_wrong_bids(self):
        nine = [("a", 20)] * 9
        seven = [(letter, 5) for letter in "abcdefg"]
        twice_and_wrong = [("a", 20), ("a", 20), ("b", 0)]
        for function in FUNCTIONS:
            for wrong in NOT_BID_LISTS + [nine, seven, twice_and_wrong, [("a", 0)], [("a", 201)]]:
                with self.subTest(function=function, wrong=wrong), self.assertRaises(InvalidBids):
                    function(LAMP, wrong)

    def test_wrong_bid_among_good_ones(self):
        wrong_bids = [("b", wrong) for wrong in NOT_INTEGERS + [0, 201, -1]]
        wrong_bids += [(wrong, 30) for wrong in NOT_BIDDERS]
        for function in FUNCTIONS:
            for wrong in wrong_bids:
                with self.subTest(function=function, wrong=wrong), self.assertRaises(InvalidBids):
                    function(LAMP, [("a", 20), wrong, ("c", 40)])

    def test_repeated(self):
        six = [(letter, 5) for letter in "abcdef"]
        for function in FUNCTIONS:
            for bids in [TWICE, [("a", 5), ("a", 5)], [("c", 4)] * 8, six + [("a", 6)],
                         [("b", 7), ("a", 5), ("c", 9), ("d", 1), ("a", 8)]]:
                with self.subTest(function=function, bids=bids), self.assertRaises(Repeated):
                    function(LAMP, bids)


if __name__ == "__main__":
    unittest.main()
