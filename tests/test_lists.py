"""What [0.3] says of arguments, of the lists that are returned and of kinds of values."""

import copy
import unittest

from proxybids.closing import closing_time, counted, final, least_span
from proxybids.effects import deciding, needless, raisers, without_bid
from proxybids.errors import Repeated
from proxybids.formats import format_bids, journal, parse_bids
from proxybids.further import greatest_price, least_accepted, least_leading, price_with
from proxybids.knowing import is_known, known_amount, still_to_pay
from proxybids.naive import naive_leading, naive_sold
from proxybids.orders import (are_single, cheapest_order, dearest_order, does_order_matter,
                              possible_prices, possible_winners)
from proxybids.running import leads, refused, result, states, winner
from proxybids.sales import are_bids, climb, is_sale, next_price
from proxybids.several import best_many, common_price, income, sold_to
from proxybids.stepping import after_steps, gain, step_bids
from samples import LAMP

BIDS = [("f", 2), ("a", 20), ("b", 15), ("c", 18), ("a", 20), ("b", 30), ("c", 24), ("e", 1)]
SINGLE = [("c", 10), ("a", 11), ("b", 10), ("e", 4)]
TIMED = [(8, "a", 20), (12, "b", 15), (12, "b", 15), (17, "c", 30), (30, "d", 40)]

OF_BIDS = [result, states, refused, winner, leads, greatest_price, raisers, needless, deciding,
           known_amount, is_known, still_to_pay, journal]
WITH_A_THIRD = [(least_accepted, "c"), (least_leading, "c"), (price_with, ("c", 34)),
                (naive_leading, "c"), (without_bid, 2)]
WITH_A_LIMIT = [step_bids, after_steps, gain]
OF_SINGLE_BIDS = [possible_winners, possible_prices, does_order_matter, dearest_order,
                  cheapest_order, best_many]
WITH_MANY = [sold_to, common_price, income, naive_sold]
WITH_TIMES = [(closing_time, [10, 5]), (counted, [10, 5]), (final, [10, 5]), (least_span, [20])]
# With these arguments they answer the same as without any bids.
AS_WITHOUT_BIDS = [without_bid, is_known, gain]


def calls_with(bids, single, timed):
    """Return each function that takes a sale and bids, with its arguments."""
    calls = [(function, [LAMP, list(bids)]) for function in OF_BIDS]
    calls += [(function, [LAMP, list(bids), third]) for function, third in WITH_A_THIRD]
    calls += [(function, [LAMP, list(bids), "c", 40]) for function in WITH_A_LIMIT]
    calls += [(function, [LAMP, list(single)]) for function in OF_SINGLE_BIDS]
    calls += [(function, [LAMP, list(single), 2]) for function in WITH_MANY]
    calls += [(function, [LAMP, list(timed)] + times) for function, times in WITH_TIMES]
    return calls


def all_calls():
    """Return each function with arguments of its own."""
    return calls_with(BIDS, SINGLE, TIMED) + [
        (are_bids, [list(BIDS)]),
        (are_bids, [[["a", [5]], ("b", [None])]]),
        (are_bids, [None]),
        (format_bids, [list(BIDS)]),
        (parse_bids, [format_bids(BIDS)]),
        (parse_bids, [""]),
        (are_single, [list(BIDS)]),
        (are_single, [list(SINGLE)]),
        (is_sale, [[[[0, 1]], 5, 5]]),
        (is_sale, [LAMP]),
        (next_price, [LAMP, 10]),
        (climb, [LAMP, 8, 15]),
    ]


class Arguments(unittest.TestCase):
    def test_not_modified(self):
        for function, arguments in all_calls():
            before = copy.deepcopy(arguments)
            function(*arguments)
            self.assertEqual(arguments, before, function)

    def test_not_modified_by_a_call_that_fails(self):
        wrong = [("a", 20), ["b", 15], ("c", True)]
        for function, arguments in calls_with(wrong, wrong, wrong):
            with self.assertRaises(ValueError):
                function(*arguments)
            self.assertEqual(arguments[1], wrong)

    def test_twice_a_bidder_not_modified(self):
        for function, arguments in calls_with(BIDS, BIDS, TIMED):
            if function in OF_SINGLE_BIDS + WITH_MANY:
                with self.assertRaises(Repeated):
                    function(*arguments)
                self.assertEqual(arguments[1], BIDS)

    def test_not_kept(self):
        for function, arguments in calls_with(BIDS, SINGLE, TIMED):
            bids = list(arguments[1])
            first = function(*arguments)
            before = copy.deepcopy(first)
            arguments[1].clear()
            self.assertEqual(first, before)
            self.assertEqual(function(arguments[0], bids, *arguments[2:]), before)
            if function not in AS_WITHOUT_BIDS:
                self.assertNotEqual(function(*arguments), before, function)

    def test_equal_arguments_give_equal_results(self):
        for function, arguments in all_calls():
            first = function(*copy.deepcopy(arguments))
            self.assertEqual(function(*copy.deepcopy(arguments)), first, function)


class Returned(unittest.TestCase):
    def test_new_lists(self):
        checked = 0
        for function, arguments in all_calls():
            first = function(*arguments)
            if not isinstance(first, list):
                continue
            expected = list(first)
            for argument in arguments:
                self.assertIsNot(first, argument)
            first.clear()
            first.append("x")
            second = function(*arguments)
            self.assertEqual(second, expected, function)
            self.assertIsNot(second, first)
            checked += 1
        self.assertEqual(checked, 16)

    def test_empty_lists_are_new_too(self):
        bids = []
        for function in (states, refused, leads, raisers, needless, deciding, possible_winners,
                         dearest_order, cheapest_order):
            first = function(LAMP, bids)
            self.assertEqual(first, [])
            self.assertIsNot(first, bids)
            first.append("x")
            self.assertEqual(function(LAMP, bids), [])
            self.assertEqual(bids, [])
        first = counted(LAMP, bids, 10, 5)
        self.assertIsNot(first, bids)
        first.append("x")
        self.assertEqual(counted(LAMP, bids, 10, 5), [])

    def test_one_bid_is_a_new_list(self):
        bids = [("a", 20)]
        for function in (dearest_order, cheapest_order):
            first = function(LAMP, bids)
            self.assertEqual(first, bids)
            first[0] = "x"
            self.assertEqual(bids, [("a", 20)])

    def test_states(self):
        self.assertIs(type(result(LAMP, BIDS)), tuple)
        others = [result(LAMP, BIDS), without_bid(LAMP, BIDS, 2), final(LAMP, TIMED, 10, 5)]
        for state in states(LAMP, BIDS) + others:
            self.assertIs(type(state), tuple)
            self.assertEqual([type(part) for part in state], [str, int, int])

    def test_numbers(self):
        for function in (refused, leads, raisers, needless, deciding):
            self.assertEqual({type(number) for number in function(LAMP, BIDS)}, {int}, function)
        self.assertEqual({type(number) for number in possible_prices(LAMP, SINGLE)}, {int})
        for function, third in WITH_A_THIRD[:3]:
            self.assertIs(type(function(LAMP, BIDS, third)), int)
        self.assertIs(type(greatest_price(LAMP, BIDS)), int)
        self.assertIs(type(least_leading(LAMP, BIDS, "b")), int)
        self.assertIs(type(still_to_pay(LAMP, BIDS)), int)
        self.assertIs(type(known_amount(LAMP, BIDS)), tuple)
        self.assertEqual([type(number) for number in known_amount(LAMP, BIDS)], [int, int])

    def test_numbers_of_things_and_times(self):
        for function in (common_price, income):
            self.assertIs(type(function(LAMP, SINGLE, 2)), int)
        self.assertIs(type(best_many(LAMP, SINGLE)), int)
        self.assertIs(type(sold_to(LAMP, SINGLE, 2)), str)
        self.assertEqual({type(number) for number in counted(LAMP, TIMED, 10, 5)}, {int})
        self.assertIs(type(closing_time(LAMP, TIMED, 10, 5)), int)
        self.assertIs(type(least_span(LAMP, TIMED, 20)), int)

    def test_orders(self):
        for function in (dearest_order, cheapest_order):
            order = function(LAMP, SINGLE)
            self.assertIs(type(order), list)
            self.assertEqual(sorted(order), sorted(SINGLE))
            self.assertEqual({type(bid) for bid in order}, {tuple})
        self.assertEqual({type(name) for name in possible_winners(LAMP, SINGLE)}, {str})


if __name__ == "__main__":
    unittest.main()
