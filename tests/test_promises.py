"""[0.2] (a), (b), (d) and what [0.3] says of lists, over many sales and bids."""

import copy
import unittest

from model import Model
from proxybids.running import leads, refused, result, states, winner
from proxybids.sales import are_bids, climb, is_sale, next_price
from samples import LAMP, all_cases, large_cases

BIDS = [("f", 2), ("a", 20), ("b", 15), ("c", 18), ("a", 20), ("b", 30), ("b", 31), ("e", 1)]


class AsTheTextSays(unittest.TestCase):
    def test_all_functions(self):
        for sale, bids in all_cases():
            model = Model(sale, bids)
            case = (sale, bids)
            self.assertEqual(states(sale, bids), model.states, case)
            self.assertEqual(result(sale, bids), model.state(), case)
            self.assertEqual(refused(sale, bids), model.refused, case)
            self.assertEqual(winner(sale, bids), model.winner(), case)
            self.assertEqual(leads(sale, bids), model.leads, case)

    def test_the_large_cases_reach_all_kinds_of_bids(self):
        kinds = {"refused": 0, "changed": 0, "eight": 0, "won": 0, "failed": 0}
        for sale, bids in large_cases():
            model = Model(sale, bids)
            kinds["refused"] += bool(model.refused)
            kinds["changed"] += model.changes > 2
            kinds["eight"] += len(bids) == 8
            kinds["won"] += model.winner() is not None
            kinds["failed"] += bool(model.leader) and model.winner() is None
        for kind, number in kinds.items():
            self.assertGreater(number, 1000, kind)


class Promises(unittest.TestCase):
    def test_a_price(self):
        for sale, bids in all_cases():
            before = 0
            for leader, price, amount in states(sale, bids):
                self.assertLessEqual(before, price, (sale, bids))
                self.assertLessEqual(price, amount, (sale, bids))
                if leader:
                    self.assertIn((leader, amount), bids)
                before = price

    def test_b_leader(self):
        for sale, bids in all_cases():
            out = refused(sale, bids)
            good = [bid for index, bid in enumerate(bids) if index not in out]
            leader, _, amount = result(sale, bids)
            if good:
                # The first of the greatest amounts is what max returns.
                best = max(good, key=lambda bid: bid[1])
                self.assertEqual((leader, amount), best, (sale, bids))
            else:
                self.assertEqual((leader, amount), ("", 0), (sale, bids))

    def test_d_refused_bids_change_nothing(self):
        for sale, bids in all_cases():
            after = states(sale, bids)
            for index in refused(sale, bids):
                rest = bids[:index] + bids[index + 1:]
                self.assertEqual(states(sale, rest), after[:index] + after[index + 1:], (sale, bids))
                self.assertEqual(result(sale, rest), after[-1] if rest else ("", 0, 0))


class Lists(unittest.TestCase):
    def calls(self):
        """Yield each function with arguments of its own."""
        for function in (result, states, refused, winner, leads):
            yield function, [LAMP, list(BIDS)]
        yield are_bids, [list(BIDS)]
        yield are_bids, [[["a", [5]], ("b", [None])]]
        yield is_sale, [[[[0, 1]], 5, 5]]
        yield is_sale, [LAMP]
        yield next_price, [LAMP, 10]
        yield climb, [LAMP, 8, 15]

    def test_arguments_are_not_modified(self):
        for function, arguments in self.calls():
            before = copy.deepcopy(arguments)
            function(*arguments)
            self.assertEqual(arguments, before, function)

    def test_arguments_are_not_modified_by_a_call_that_fails(self):
        wrong = [("a", 20), ["b", 15], ("c", True)]
        for function in (result, states, refused, winner, leads):
            bids = copy.deepcopy(wrong)
            with self.assertRaises(ValueError):
                function(LAMP, bids)
            self.assertEqual(bids, wrong)

    def test_equal_arguments_give_equal_results(self):
        for function, arguments in self.calls():
            first = function(*copy.deepcopy(arguments))
            self.assertEqual(function(*copy.deepcopy(arguments)), first, function)

    def test_returned_lists_are_new(self):
        for function, arguments in self.calls():
            first = function(*arguments)
            if not isinstance(first, list):
                continue
            expected = list(first)
            self.assertIsNot(first, arguments[-1])
            first.clear()
            first.append("x")
            second = function(*arguments)
            self.assertEqual(second, expected, function)
            self.assertIsNot(second, first)

    def test_empty_lists_are_new_too(self):
        bids = []
        for function in (states, refused, leads):
            first = function(LAMP, bids)
            self.assertEqual(first, [])
            self.assertIsNot(first, bids)
            first.append("x")
            self.assertEqual(function(LAMP, bids), [])
            self.assertEqual(bids, [])

    def test_passed_lists_are_not_kept(self):
        for function in (result, states, refused, winner, leads):
            bids = list(BIDS)
            first = function(LAMP, bids)
            before = copy.deepcopy(first)
            bids.clear()
            self.assertEqual(first, before)
            self.assertEqual(function(LAMP, list(BIDS)), before)
            self.assertNotEqual(function(LAMP, bids), before)

    def test_kinds(self):
        self.assertIs(type(result(LAMP, BIDS)), tuple)
        for state in states(LAMP, BIDS):
            self.assertIs(type(state), tuple)
            self.assertEqual([type(part) for part in state], [str, int, int])
        for function in (refused, leads):
            self.assertEqual({type(number) for number in function(LAMP, BIDS)}, {int})


if __name__ == "__main__":
    unittest.main()
