"""[0.2] (a) to (e), over many sales and bids."""

import itertools
import random
import unittest

from model import Model, following
from proxybids.desk import Desk
from proxybids.effects import needless, without_bid
from proxybids.further import price_with
from proxybids.orders import possible_winners
from proxybids.running import leads, refused, result, states, winner
from samples import all_cases, further_cases, large_cases, random_bids, single_cases


class AsTheTextSays(unittest.TestCase):
    def test_all_functions(self):
        for sale, bids in all_cases():
            model = Model(sale, bids)
            case = (sale, bids)
            self.assertEqual(states(sale, bids), model.states, case)
            self.assertEqual(result(sale, bids), model.state(), case)
            self.assertEqual(refused(sale, bids), model.refused, case)
            self.assertEqual(winner(sale, bids), model.winner(), case)
            self.assertEqual(leads(sale, bids), model.leads, case)

    def test_the_large_cases_reach_all_kinds_of_bids(self):
        kinds = {"refused": 0, "changed": 0, "eight": 0, "won": 0, "failed": 0}
        for sale, bids in large_cases():
            model = Model(sale, bids)
            kinds["refused"] += bool(model.refused)
            kinds["changed"] += model.changes > 2
            kinds["eight"] += len(bids) == 8
            kinds["won"] += model.winner() is not None
            kinds["failed"] += bool(model.leader) and model.winner() is None
        for kind, number in kinds.items():
            self.assertGreater(number, 1000, kind)


class Promises(unittest.TestCase):
    def test_a_price(self):
        for sale, bids in all_cases():
            before = 0
            for leader, price, amount in states(sale, bids):
                self.assertLessEqual(before, price, (sale, bids))
                self.assertLessEqual(price, amount, (sale, bids))
                if leader:
                    self.assertIn((leader, amount), bids)
                before = price

    def test_b_leader(self):
        for sale, bids in all_cases():
            out = refused(sale, bids)
            good = [bid for index, bid in enumerate(bids) if index not in out]
            leader, _, amount = result(sale, bids)
            if good:
                # The first of the greatest amounts is what max returns.
                best = max(good, key=lambda bid: bid[1])
                self.assertEqual((leader, amount), best, (sale, bids))
            else:
                self.assertEqual((leader, amount), ("", 0), (sale, bids))

    def test_c_greatest_amount(self):
        reached = {"greater": 0, "just": 0}
        for sale, bids in single_cases():
            bounds = [sale[1]]
            amounts = sorted([amount for _, amount in bids], reverse=True)
            bounds += [following(sale[0], amount) for amount in amounts[1:2]]
            if not bids or amounts[0] < max(bounds):
                continue
            best = max(bids, key=lambda bid: bid[1])[0]
            for order in itertools.permutations(bids):
                self.assertEqual(result(sale, list(order))[0], best, (sale, order))
            succeeds = amounts[0] >= sale[2]
            self.assertEqual(possible_winners(sale, bids), [best] if succeeds else [])
            reached["just" if amounts[0] == max(bounds) else "greater"] += 1
        self.assertGreater(min(reached.values()), 100)

    def test_d_without_a_refused_bid(self):
        for sale, bids in further_cases():
            last = result(sale, bids)
            out = refused(sale, bids)
            self.assertEqual([index for index in needless(sale, bids) if index in out], out)
            for index in out:
                self.assertEqual(without_bid(sale, bids, index), last, (sale, bids))

    def test_e_further_bid(self):
        source = random.Random(5)
        kinds = {"same": 0, "greater": 0, "eight": 0}
        for sale, bids in large_cases():
            before = result(sale, bids)[1]
            for bid in random_bids(source)[:3]:
                after = price_with(sale, bids, bid)
                self.assertGreaterEqual(after, before, (sale, bids, bid))
                kinds["same" if after == before else "greater"] += 1
                kinds["eight"] += len(bids) == 8
        for kind, number in kinds.items():
            self.assertGreater(number, 1000, kind)

    def test_on_a_desk(self):
        kinds = {"refused": 0, "leads": 0, "raised": 0, "kept": 0}
        for sale, bids in itertools.islice(large_cases(), 8000):
            desk = Desk(sale)
            taken = []
            for bidder, amount in bids:
                before = desk.result()
                word = desk.bid(bidder, amount)
                leader, price, held = after = desk.result()
                case = (sale, desk.bids())
                self.assertTrue(before[1] <= price <= held, case)
                if word == "refused":
                    self.assertEqual(after, before, case)
                else:
                    taken.append((bidder, amount))
                    best = max(taken, key=lambda bid: bid[1])
                    self.assertEqual((leader, held), best, case)
                kinds[word] += 1
            self.assertEqual(desk.bids(), bids)
            self.assertEqual(desk.result(), result(sale, bids))
            self.assertEqual(desk.result(), result(sale, taken))
        self.assertGreater(min(kinds.values()), 300)

    def test_d_refused_bids_change_nothing(self):
        for sale, bids in all_cases():
            after = states(sale, bids)
            for index in refused(sale, bids):
                rest = bids[:index] + bids[index + 1:]
                self.assertEqual(states(sale, rest), after[:index] + after[index + 1:], (sale, bids))
                self.assertEqual(result(sale, rest), after[-1] if rest else ("", 0, 0))


if __name__ == "__main__":
    unittest.main()
