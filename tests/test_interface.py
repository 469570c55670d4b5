"""The interface: each name, its arguments and the file that defines it."""

import importlib
import inspect
import os
import unittest

import proxybids
from proxybids.desk import Desk

FUNCTIONS = {
    "sales": {
        "is_sale": ["candidate"], "are_bids": ["candidate"], "next_price": ["sale", "price"],
        "climb": ["sale", "price", "most"],
    },
    "running": {
        "result": ["sale", "bids"], "states": ["sale", "bids"], "refused": ["sale", "bids"],
        "winner": ["sale", "bids"], "leads": ["sale", "bids"],
    },
    "orders": {
        "are_single": ["bids"], "possible_winners": ["sale", "bids"],
        "possible_prices": ["sale", "bids"], "does_order_matter": ["sale", "bids"],
        "dearest_order": ["sale", "bids"], "cheapest_order": ["sale", "bids"],
    },
    "further": {
        "least_accepted": ["sale", "bids", "bidder"], "least_leading": ["sale", "bids", "bidder"],
        "price_with": ["sale", "bids", "bid"], "greatest_price": ["sale", "bids"],
    },
    "effects": {
        "without_bid": ["sale", "bids", "index"], "raisers": ["sale", "bids"],
        "needless": ["sale", "bids"], "deciding": ["sale", "bids"],
    },
    "knowing": {
        "known_amount": ["sale", "bids"], "is_known": ["sale", "bids"],
        "still_to_pay": ["sale", "bids"],
    },
    "several": {
        "sold_to": ["sale", "bids", "many"], "common_price": ["sale", "bids", "many"],
        "income": ["sale", "bids", "many"], "best_many": ["sale", "bids"],
    },
    "closing": {
        "closing_time": ["sale", "timed", "end", "span"],
        "counted": ["sale", "timed", "end", "span"],
        "final": ["sale", "timed", "end", "span"], "least_span": ["sale", "timed", "end"],
    },
    "stepping": {
        "step_bids": ["sale", "bids", "bidder", "limit"],
        "after_steps": ["sale", "bids", "bidder", "limit"],
        "gain": ["sale", "bids", "bidder", "limit"],
    },
    "formats": {
        "format_bids": ["bids"], "parse_bids": ["text"], "journal": ["sale", "bids"],
    },
    "naive": {
        "naive_leading": ["sale", "bids", "bidder"], "naive_sold": ["sale", "bids", "many"],
    },
}

# The methods of Desk, each one with its arguments behind the desk itself.
METHODS = {
    "__init__": ["sale"], "__eq__": ["other"], "__len__": [], "bids": [], "result": [],
    "bid": ["bidder", "amount"], "lower": ["reserve"], "undo": [], "redo": [], "copy": [],
}


class Interface(unittest.TestCase):
    def test_functions(self):
        for file, functions in FUNCTIONS.items():
            module = importlib.import_module("proxybids." + file)
            for name, arguments in functions.items():
                with self.subTest(file=file, name=name):
                    function = getattr(module, name)
                    self.assertTrue(inspect.isfunction(function))
                    self.assertEqual(function.__module__, "proxybids." + file)
                    parameters = inspect.signature(function).parameters.values()
                    self.assertEqual([each.name for each in parameters], arguments)
                    self.assertTrue(all(each.default is each.empty for each in parameters))

    def test_desk(self):
        self.assertEqual(Desk.__module__, "proxybids.desk")
        for name, arguments in METHODS.items():
            with self.subTest(name):
                # In the class itself, not only in a base class.
                method = vars(Desk)[name]
                self.assertTrue(inspect.isfunction(method))
                parameters = list(inspect.signature(method).parameters.values())[1:]
                self.assertEqual([each.name for each in parameters], arguments)
                self.assertTrue(all(each.default is each.empty for each in parameters))

    def test_files(self):
        folder = os.path.dirname(proxybids.__file__)
        files = sorted(name for name in os.listdir(folder) if name != "__pycache__")
        names = ["__init__", "desk", "errors", *FUNCTIONS]
        self.assertEqual(files, sorted(name + ".py" for name in names))


if __name__ == "__main__":
    unittest.main()
