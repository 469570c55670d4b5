"""Wrong values in each argument of each function, and which error comes first."""

import itertools
import unittest

from proxybids import errors
from proxybids.closing import closing_time, counted, final, least_span
from proxybids.effects import deciding, needless, raisers, without_bid
from proxybids.formats import format_bids, journal
from proxybids.further import greatest_price, least_accepted, least_leading, price_with
from proxybids.knowing import is_known, known_amount, still_to_pay
from proxybids.naive import naive_leading, naive_sold
from proxybids.orders import (are_single, cheapest_order, dearest_order, does_order_matter,
                              possible_prices, possible_winners)
from proxybids.running import leads, refused, result, states, winner
from proxybids.sales import climb, next_price
from proxybids.several import best_many, common_price, income, sold_to
from proxybids.stepping import after_steps, gain, step_bids
from samples import (LAMP, NOT_BID_LISTS, NOT_BIDDERS, NOT_BIDS, NOT_INTEGERS, NOT_SALES,
                     NOT_TIMED, spoiled)

BIDS = [("a", 20), ("b", 15), ("a", 30)]
SINGLE = [("a", 20), ("b", 15)]
TIMED = [(0, "a", 20), (8, "b", 15), (8, "a", 30)]
NINE = [("a", 20)] * 9
TWICE = [[("a", 20), ("b", 15), ("a", 30)], [("a", 5), ("a", 5)], [("c", 4)] * 8]


def outside(least, most):
    """Return integers that are not from least to most, and what is no integer."""
    return [least - 1, most + 1, -1, -most - 1, 10 ** 30, -10 ** 30] + NOT_INTEGERS


# Each kind of argument: a right value, then each error with the values that it is raised for.
KINDS = {
    "sale": (LAMP, [("InvalidSale", NOT_SALES + NOT_INTEGERS)]),
    "bids": (BIDS, [("InvalidBids", NOT_BID_LISTS + NOT_INTEGERS[:7] + [NINE, [("a", 201)]])]),
    "single": (SINGLE, [("InvalidBids", NOT_BID_LISTS + NOT_INTEGERS[:7] + [NINE, TWICE[0] + [0]]),
                        ("Repeated", TWICE)]),
    "bidder": ("b", [("InvalidBidder", NOT_BIDDERS)]),
    "bid": (("b", 40), [("InvalidBid", NOT_BIDS)]),
    "index": (0, [("InvalidIndex", outside(0, 2))]),
    "price": (10, [("InvalidPrice", outside(0, 200))]),
    "many": (2, [("InvalidNumber", outside(1, 6))]),
    "timed": (TIMED, [("InvalidTimed", NOT_TIMED + NOT_INTEGERS[:7])]),
    "end": (10, [("InvalidTime", outside(0, 100))]),
    "span": (5, [("InvalidTime", outside(0, 20))]),
    "limit": (40, [("InvalidPrice", outside(1, 200))]),
}

# The kinds of the arguments. The documented exceptions come in the order of the arguments.
FUNCTIONS = {
    next_price: ["sale", "price"],
    climb: ["sale", "price", "price"],
    result: ["sale", "bids"],
    states: ["sale", "bids"],
    refused: ["sale", "bids"],
    winner: ["sale", "bids"],
    leads: ["sale", "bids"],
    are_single: ["bids"],
    possible_winners: ["sale", "single"],
    possible_prices: ["sale", "single"],
    does_order_matter: ["sale", "single"],
    dearest_order: ["sale", "single"],
    cheapest_order: ["sale", "single"],
    least_accepted: ["sale", "bids", "bidder"],
    least_leading: ["sale", "bids", "bidder"],
    price_with: ["sale", "bids", "bid"],
    greatest_price: ["sale", "bids"],
    without_bid: ["sale", "bids", "index"],
    raisers: ["sale", "bids"],
    needless: ["sale", "bids"],
    deciding: ["sale", "bids"],
    known_amount: ["sale", "bids"],
    is_known: ["sale", "bids"],
    still_to_pay: ["sale", "bids"],
    sold_to: ["sale", "single", "many"],
    common_price: ["sale", "single", "many"],
    income: ["sale", "single", "many"],
    best_many: ["sale", "single"],
    closing_time: ["sale", "timed", "end", "span"],
    counted: ["sale", "timed", "end", "span"],
    final: ["sale", "timed", "end", "span"],
    least_span: ["sale", "timed", "end"],
    step_bids: ["sale", "bids", "bidder", "limit"],
    after_steps: ["sale", "bids", "bidder", "limit"],
    gain: ["sale", "bids", "bidder", "limit"],
    format_bids: ["bids"],
    journal: ["sale", "bids"],
    naive_leading: ["sale", "bids", "bidder"],
    naive_sold: ["sale", "single", "many"],
}


def choices(kind):
    """Return a right value and some wrong ones of a kind, each with its error."""
    right, wrongs = KINDS[kind]
    found = [(right, None)]
    for error, values in wrongs:
        found += [(value, error) for value in values[:3] + values[-2:]]
    return found


class Wrong(unittest.TestCase):
    def check(self, function, values, error):
        """Check the error, and that it is no other one, not even a subclass of it."""
        with self.assertRaises(errors.BidError) as caught:
            function(*values)
        self.assertIs(type(caught.exception), getattr(errors, error), (function, values))

    def test_right_values(self):
        for function, kinds in FUNCTIONS.items():
            function(*[KINDS[kind][0] for kind in kinds])

    def test_each_wrong_value_in_each_place(self):
        for function, kinds in FUNCTIONS.items():
            right = [KINDS[kind][0] for kind in kinds]
            for place, kind in enumerate(kinds):
                for error, wrongs in KINDS[kind][1]:
                    for wrong in wrongs:
                        values = right[:place] + [wrong] + right[place + 1:]
                        self.check(function, values, error)

    def test_right_values_with_one_wrong_part(self):
        for function, kinds in FUNCTIONS.items():
            right = [KINDS[kind][0] for kind in kinds]
            for place, kind in enumerate(kinds):
                for wrong in spoiled(right[place]):
                    values = right[:place] + [wrong] + right[place + 1:]
                    self.check(function, values, KINDS[kind][1][0][0])

    def test_several_wrong_values_at_once(self):
        numbers = {0: 0, 1: 0, 2: 0, 3: 0, 4: 0}
        for function, kinds in FUNCTIONS.items():
            for chosen in itertools.product(*[choices(kind) for kind in kinds]):
                found = [error for _, error in chosen if error]
                numbers[len(found)] += 1
                if found:
                    self.check(function, [value for value, _ in chosen], found[0])
        self.assertGreater(min(list(numbers.values())[1:]), 100)


if __name__ == "__main__":
    unittest.main()
