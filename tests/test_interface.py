"""The interface: each name, its arguments and the file that defines it."""

import importlib
import inspect
import unittest

FUNCTIONS = {
    "sales": {
        "is_sale": ["candidate"], "are_bids": ["candidate"], "next_price": ["sale", "price"],
        "climb": ["sale", "price", "most"],
    },
    "running": {
        "result": ["sale", "bids"], "states": ["sale", "bids"], "refused": ["sale", "bids"],
        "winner": ["sale", "bids"], "leads": ["sale", "bids"],
    },
    "orders": {
        "are_single": ["bids"], "possible_winners": ["sale", "bids"],
        "possible_prices": ["sale", "bids"], "does_order_matter": ["sale", "bids"],
        "dearest_order": ["sale", "bids"], "cheapest_order": ["sale", "bids"],
    },
    "further": {
        "least_accepted": ["sale", "bids", "bidder"], "least_leading": ["sale", "bids", "bidder"],
        "price_with": ["sale", "bids", "bid"], "greatest_price": ["sale", "bids"],
    },
    "effects": {
        "without_bid": ["sale", "bids", "index"], "raisers": ["sale", "bids"],
        "needless": ["sale", "bids"], "deciding": ["sale", "bids"],
    },
    "knowing": {
        "known_amount": ["sale", "bids"], "is_known": ["sale", "bids"],
        "still_to_pay": ["sale", "bids"],
    },
    "several": {
        "sold_to": ["sale", "bids", "many"], "common_price": ["sale", "bids", "many"],
        "income": ["sale", "bids", "many"], "best_many": ["sale", "bids"],
    },
    "closing": {
        "closing_time": ["sale", "timed", "end", "span"],
        "counted": ["sale", "timed", "end", "span"],
        "final": ["sale", "timed", "end", "span"], "least_span": ["sale", "timed", "end"],
    },
}


class Interface(unittest.TestCase):
    def test_functions(self):
        for file, functions in FUNCTIONS.items():
            module = importlib.import_module("proxybids." + file)
            for name, arguments in functions.items():
                with self.subTest(file=file, name=name):
                    function = getattr(module, name)
                    self.assertTrue(inspect.isfunction(function))
                    self.assertEqual(function.__module__, "proxybids." + file)
                    parameters = inspect.signature(function).parameters.values()
                    self.assertEqual([each.name for each in parameters], arguments)
                    self.assertTrue(all(each.default is each.empty for each in parameters))


if __name__ == "__main__":
    unittest.main()
