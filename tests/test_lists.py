"""What [0.3] says of arguments, of the lists that are returned and of kinds of values."""

import copy
import unittest

from proxybids.effects import deciding, needless, raisers, without_bid
from proxybids.further import greatest_price, least_accepted, least_leading, price_with
from proxybids.orders import (are_single, cheapest_order, dearest_order, does_order_matter,
                              possible_prices, possible_winners)
from proxybids.running import leads, refused, result, states, winner
from proxybids.sales import are_bids, climb, is_sale, next_price
from samples import LAMP

BIDS = [("f", 2), ("a", 20), ("b", 15), ("c", 18), ("a", 20), ("b", 30), ("c", 24), ("e", 1)]
SINGLE = [("c", 10), ("a", 11), ("b", 10), ("e", 4)]

OF_BIDS = [result, states, refused, winner, leads, greatest_price, raisers, needless, deciding]
OF_SINGLE_BIDS = [possible_winners, possible_prices, does_order_matter, dearest_order,
                  cheapest_order]
WITH_A_THIRD = [(least_accepted, "c"), (least_leading, "c"), (price_with, ("c", 34)),
                (without_bid, 2)]


def calls_with(bids, single):
    """Return each function that takes a sale and bids, with its arguments."""
    calls = [(function, [LAMP, list(bids)]) for function in OF_BIDS]
    calls += [(function, [LAMP, list(bids), third]) for function, third in WITH_A_THIRD]
    calls += [(function, [LAMP, list(single)]) for function in OF_SINGLE_BIDS]
    return calls


def all_calls():
    """Return each function with arguments of its own."""
    return calls_with(BIDS, SINGLE) + [
        (are_bids, [list(BIDS)]),
        (are_bids, [[["a", [5]], ("b", [None])]]),
        (are_single, [list(BIDS)]),
        (are_single, [list(SINGLE)]),
        (is_sale, [[[[0, 1]], 5, 5]]),
        (is_sale, [LAMP]),
        (next_price, [LAMP, 10]),
        (climb, [LAMP, 8, 15]),
    ]


class Arguments(unittest.TestCase):
    def test_not_modified(self):
        for function, arguments in all_calls():
            before = copy.deepcopy(arguments)
            function(*arguments)
            self.assertEqual(arguments, before, function)

    def test_not_modified_by_a_call_that_fails(self):
        wrong = [("a", 20), ["b", 15], ("c", True)]
        for function, arguments in calls_with(wrong, wrong):
            with self.assertRaises(ValueError):
                function(*arguments)
            self.assertEqual(arguments[1], wrong)

    def test_twice_a_bidder_not_modified(self):
        for function in OF_SINGLE_BIDS:
            bids = list(BIDS)
            with self.assertRaises(ValueError):
                function(LAMP, bids)
            self.assertEqual(bids, BIDS)

    def test_not_kept(self):
        for function, arguments in calls_with(BIDS, SINGLE):
            bids = list(arguments[1])
            first = function(*arguments)
            before = copy.deepcopy(first)
            arguments[1].clear()
            self.assertEqual(first, before)
            self.assertEqual(function(arguments[0], bids, *arguments[2:]), before)
            if function is not without_bid:
                self.assertNotEqual(function(*arguments), before, function)

    def test_equal_arguments_give_equal_results(self):
        for function, arguments in all_calls():
            first = function(*copy.deepcopy(arguments))
            self.assertEqual(function(*copy.deepcopy(arguments)), first, function)


class Returned(unittest.TestCase):
    def test_new_lists(self):
        checked = 0
        for function, arguments in all_calls():
            first = function(*arguments)
            if not isinstance(first, list):
                continue
            expected = list(first)
            self.assertIsNot(first, arguments[-1])
            first.clear()
            first.append("x")
            second = function(*arguments)
            self.assertEqual(second, expected, function)
            self.assertIsNot(second, first)
            checked += 1
        self.assertEqual(checked, 11)

    def test_empty_lists_are_new_too(self):
        bids = []
        for function in (states, refused, leads, raisers, needless, deciding, possible_winners,
                         dearest_order, cheapest_order):
            first = function(LAMP, bids)
            self.assertEqual(first, [])
            self.assertIsNot(first, bids)
            first.append("x")
            self.assertEqual(function(LAMP, bids), [])
            self.assertEqual(bids, [])

    def test_one_bid_is_a_new_list(self):
        bids = [("a", 20)]
        for function in (dearest_order, cheapest_order):
            first = function(LAMP, bids)
            self.assertEqual(first, bids)
            first[0] = "x"
            self.assertEqual(bids, [("a", 20)])

    def test_states(self):
        self.assertIs(type(result(LAMP, BIDS)), tuple)
        for state in states(LAMP, BIDS) + [result(LAMP, BIDS), without_bid(LAMP, BIDS, 2)]:
            self.assertIs(type(state), tuple)
            self.assertEqual([type(part) for part in state], [str, int, int])

    def test_numbers(self):
        for function in (refused, leads, raisers, needless, deciding):
            self.assertEqual({type(number) for number in function(LAMP, BIDS)}, {int}, function)
        self.assertEqual({type(number) for number in possible_prices(LAMP, SINGLE)}, {int})
        for function, third in WITH_A_THIRD[:3]:
            self.assertIs(type(function(LAMP, BIDS, third)), int)
        self.assertIs(type(greatest_price(LAMP, BIDS)), int)
        self.assertIs(type(least_leading(LAMP, BIDS, "b")), int)

    def test_orders(self):
        for function in (dearest_order, cheapest_order):
            order = function(LAMP, SINGLE)
            self.assertIs(type(order), list)
            self.assertEqual(sorted(order), sorted(SINGLE))
            self.assertEqual({type(bid) for bid in order}, {tuple})
        self.assertEqual({type(name) for name in possible_winners(LAMP, SINGLE)}, {str})


if __name__ == "__main__":
    unittest.main()
