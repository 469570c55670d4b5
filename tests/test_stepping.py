"""[9.1] to [9.3]: a bidder who bids step by step."""

import itertools
import unittest

from model import Model
from proxybids.further import least_accepted, price_with
from proxybids.running import result
from proxybids.stepping import after_steps, gain, step_bids
from samples import LAMP, further_cases

STEPS = LAMP[0]
BIDS = [("a", 20), ("b", 15)]
EIGHT = [("a", 10), ("b", 20), ("a", 30), ("a", 40), ("c", 35), ("b", 50), ("b", 50), ("f", 9)]


class Examples(unittest.TestCase):
    bids = [("a", 20), ("b", 5)]

    def test_step_bids(self):
        self.assertEqual(step_bids(LAMP, self.bids, "c", 40), [6, 8, 10, 14, 18, 22])

    def test_after_steps(self):
        self.assertEqual(after_steps(LAMP, self.bids, "c", 40), ("c", 22, 22))

    def test_gain(self):
        self.assertEqual(gain(LAMP, self.bids, "c", 40), 0)


class Stepping(unittest.TestCase):
    """Answers that were worked out by hand."""

    def check(self, bids, bidder, limit, amounts, state, more=0, sale=LAMP):
        with self.subTest(sale=sale, bids=bids, bidder=bidder, limit=limit):
            self.assertEqual(step_bids(sale, bids, bidder, limit), amounts)
            self.assertEqual(after_steps(sale, bids, bidder, limit), state)
            self.assertEqual(gain(sale, bids, bidder, limit), more)

    def test_no_bids(self):
        self.check([], "c", 4, [], ("", 0, 0))
        self.check([], "c", 5, [5], ("c", 5, 5))
        self.check([], "c", 6, [5], ("c", 5, 5))
        self.check([], "c", 200, [5], ("c", 5, 5))

    def test_all_refused(self):
        self.check([("a", 4), ("c", 1)], "c", 4, [], ("", 0, 0))
        self.check([("a", 4), ("c", 1)], "c", 5, [5], ("c", 5, 5))

    def test_leads_already(self):
        for limit in (1, 5, 20, 21, 200):
            self.check(BIDS, "a", limit, [], ("a", 17, 20))

    def test_around_the_least_amount(self):
        self.check(BIDS, "c", 1, [], ("a", 17, 20))
        self.check(BIDS, "c", 18, [], ("a", 17, 20))
        self.check(BIDS, "c", 19, [19], ("a", 20, 20))
        self.check(BIDS, "c", 20, [19], ("a", 20, 20))

    def test_lead_in_the_last_step(self):
        self.check(BIDS, "c", 22, [19, 22], ("c", 22, 22))
        self.check(BIDS, "b", 22, [19, 22], ("b", 22, 22))
        self.check(BIDS, "c", 200, [19, 22], ("c", 22, 22))

    def test_never_leads(self):
        self.check([("a", 200)], "b", 9, [6, 8], ("a", 9, 200), 1)
        self.check([("a", 12)], "b", 12, [6, 8, 10], ("a", 12, 12))

    def test_leads_with_one_bid_only(self):
        # The next price after 20 is 22, which is greater than the limit.
        self.check(BIDS, "c", 21, [19], ("a", 20, 20), 1)

    def test_one_bid_gives_a_greater_price(self):
        self.check([("a", 20)], "b", 7, [6], ("a", 7, 20), 1)
        self.check([("a", 20)], "b", 11, [6, 8, 10], ("a", 12, 20), 1)

    def test_reserve(self):
        sale = (STEPS, 5, 30)
        self.check([("a", 28)], "c", 200, [6, 8, 10, 14, 18, 22, 26, 30], ("c", 30, 30), 0, sale)
        self.check([("a", 28)], "c", 29, [6, 8, 10, 14, 18, 22, 26], ("a", 28, 28), 1, sale)
        self.check([("a", 50)], "c", 90, [32, 36, 40, 44, 48, 55], ("c", 55, 55), 0, sale)
        self.check([("a", 50)], "c", 31, [], ("a", 30, 50), 0, sale)

    def test_only_one_bid_reaches_the_reserve(self):
        sale = (STEPS, 5, 30)
        self.check([], "c", 29, [5], ("c", 5, 5), 0, sale)
        self.check([], "c", 30, [5], ("c", 5, 5), 25, sale)
        self.check([("a", 10)], "c", 30, [6, 8, 10, 12], ("c", 12, 12), 18, sale)
        self.check([("c", 20)], "c", 29, [], ("c", 5, 20), 0, sale)
        self.check([("c", 20)], "c", 30, [], ("c", 5, 20), 25, sale)

    def test_eight_bids(self):
        self.check(EIGHT, "c", 60, [44, 48, 55], ("c", 55, 55))
        self.check(EIGHT, "c", 54, [44, 48], ("b", 50, 50), 4)
        self.check(EIGHT, "b", 200, [], ("b", 42, 50))

    def test_more_steps_than_bids_can_be(self):
        sale = (((0, 1),), 1, 1)
        amounts = list(range(2, 199, 2))
        self.check([("a", 200)], "b", 199, amounts, ("a", 199, 200), 1, sale)
        self.check([("a", 200)], "b", 200, amounts + [200], ("a", 200, 200), 0, sale)

    def test_200(self):
        sale = (((0, 50),), 100, 150)
        self.check([("a", 150)], "b", 200, [200], ("b", 200, 200), 0, sale)
        self.check([("a", 200)], "b", 200, [200], ("a", 200, 200), 0, sale)
        self.check([("a", 151)], "b", 200, [], ("a", 151, 151), 0, (((0, 50),), 100, 151))


def stepped(sale, bids, bidder, limit):
    """Return amounts and state by trying for each step all amounts up to the limit."""
    model = Model(sale, bids)
    amounts = []
    while model.leader != bidder:
        # Only the first amount that is taken changes the model.
        trials = (amount for amount in range(1, limit + 1) if model.add(bidder, amount))
        taken = next(trials, None)
        if taken is None:
            break
        amounts.append(taken)
    return amounts, model.state()


class AsTheTextSays(unittest.TestCase):
    def cases(self):
        for number, (sale, bids) in enumerate(itertools.islice(further_cases(), 0, None, 4)):
            for limit in (1, 3, 7, 50, 120, 199, 200):
                yield sale, bids, "abf"[number % 3], limit

    def test_all_functions(self):
        kinds = {"no steps": 0, "many": 0, "leads": 0, "does not lead": 0}
        for case in self.cases():
            sale, bids, bidder, limit = case
            amounts, state = stepped(*case)
            self.assertEqual(step_bids(*case), amounts, case)
            self.assertEqual(after_steps(*case), state, case)
            once = Model(sale, bids + [(bidder, limit)])
            self.assertEqual(gain(*case), once.price - state[1], case)
            kinds["no steps"] += not amounts
            kinds["many"] += len(amounts) > 8
            kinds["leads"] += bool(amounts) and state[0] == bidder
            kinds["does not lead"] += bool(amounts) and state[0] != bidder
        for kind, number in kinds.items():
            self.assertGreater(number, 50, kind)

    def test_one_by_one(self):
        for sale, bids, bidder, limit in self.cases():
            room = list(bids)
            steps = step_bids(sale, bids, bidder, limit)
            for amount in steps:
                if len(room) == 8:
                    break
                self.assertNotEqual(result(sale, room)[0], bidder)
                self.assertEqual(least_accepted(sale, room, bidder), amount)
                room.append((bidder, amount))
            if len(room) - len(bids) == len(steps):
                case = (sale, bids, bidder, limit)
                self.assertEqual(after_steps(*case), result(sale, room), case)

    def test_gain_is_never_less_than_0(self):
        # There is no case in which one bid gives a lesser price: each step is at most the limit,
        # and of two bids of a bidder the greater one never gives the lesser price.
        kinds = {"equal": 0, "greater": 0}
        for case in self.cases():
            more = gain(*case)
            self.assertGreaterEqual(more, 0, case)
            kinds["greater" if more else "equal"] += 1
        self.assertGreater(min(kinds.values()), 100)

    def test_leads_after_the_steps_only_if_after_one_bid(self):
        for case in self.cases():
            sale, bids, bidder, limit = case
            if after_steps(*case)[0] == bidder:
                self.assertEqual(Model(sale, bids + [(bidder, limit)]).leader, bidder, case)

    def test_steps_never_make_the_price_less(self):
        for case in self.cases():
            sale, bids, bidder, limit = case
            before = result(sale, bids)[1]
            leader, price, amount = after_steps(*case)
            self.assertLessEqual(before, price, case)
            self.assertLessEqual(price, amount, case)
            self.assertLessEqual(price, price_with(sale, bids, (bidder, limit)), case)


if __name__ == "__main__":
    unittest.main()
