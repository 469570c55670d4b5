"""[6.1] and [6.2]: what others know about the leader's amount."""

import itertools
import unittest

from model import Model
from proxybids.knowing import is_known, known_amount, still_to_pay
from samples import LAMP, further_cases

STEPS = LAMP[0]
TEN = (((0, 10),), 5, 5)
EIGHT = [("a", 10), ("b", 20), ("a", 30), ("a", 40), ("c", 35), ("b", 50), ("b", 50), ("f", 9)]


def seen(sale, bids):
    """Return what others see, by the second writing of [0.6]."""
    model = Model(sale, bids)
    return [state[:2] for state in model.states], model.refused


def possible_amounts(sale, bids):
    """Return all amounts of [6.1], each of them tried."""
    model = Model(sale, bids)
    taken = [index for index, bid in enumerate(bids)
             if bid[0] == model.leader and index not in model.refused]
    before, after = bids[:taken[-1]], bids[taken[-1] + 1:]
    what_is_seen = seen(sale, bids)
    return [amount for amount in range(1, 201)
            if seen(sale, before + [(model.leader, amount)] + after) == what_is_seen]


class Examples(unittest.TestCase):
    bids = [("a", 20), ("b", 15)]

    def test_known_amount(self):
        self.assertEqual(known_amount(LAMP, self.bids), (17, 200))

    def test_still_to_pay(self):
        self.assertEqual(still_to_pay(LAMP, self.bids), 3)

    def test_is_known(self):
        self.assertIs(is_known(LAMP, self.bids), False)


class NoLeader(unittest.TestCase):
    def test_no_bids_and_all_refused(self):
        for bids in ([], [("a", 4)], [("a", 4), ("b", 1), ("a", 3)], [("a", 4)] * 8):
            with self.subTest(bids):
                self.assertIs(known_amount(LAMP, bids), None)
                self.assertIs(is_known(LAMP, bids), False)
                self.assertEqual(still_to_pay(LAMP, bids), 0)


class Known(unittest.TestCase):
    """Answers that were worked out by hand."""

    def check(self, bids, known, to_pay, sale=LAMP):
        with self.subTest(sale=sale, bids=bids):
            self.assertEqual(known_amount(sale, bids), known)
            self.assertIs(is_known(sale, bids), known[0] == known[1])
            self.assertEqual(still_to_pay(sale, bids), to_pay)

    def test_one_bid(self):
        self.check([("a", 20)], (5, 200), 15)
        self.check([("a", 5)], (5, 200), 0)
        self.check([("a", 200)], (5, 200), 195)
        self.check([("a", 4), ("b", 3), ("a", 20)], (5, 200), 15)

    def test_another_bid_below(self):
        self.check([("a", 20), ("b", 6)], (7, 200), 13)
        self.check([("a", 20), ("b", 17)], (19, 200), 1)

    def test_price_is_the_amount(self):
        # The next price after 18 is 20 itself, that after 19 would be 21.
        self.check([("a", 20), ("b", 18)], (20, 200), 0)
        self.check([("a", 20), ("b", 19)], (20, 20), 0)
        self.check([("a", 20), ("b", 20)], (20, 20), 0)

    def test_leader_over_another(self):
        self.check([("a", 20), ("b", 21)], (21, 21), 0)
        self.check([("a", 20), ("b", 22)], (22, 200), 0)
        self.check([("a", 20), ("b", 23)], (22, 200), 1)

    def test_last_bid_is_refused(self):
        self.check([("a", 20), ("a", 20)], (20, 200), 15)
        self.check([("a", 20), ("a", 19)], (19, 200), 15)
        self.check([("a", 20), ("b", 15), ("a", 18)], (18, 200), 3)
        self.check([("a", 20), ("b", 15), ("a", 16)], (17, 200), 3)

    def test_refused_bid_of_another_says_nothing(self):
        self.check([("a", 20), ("b", 15), ("c", 18)], (17, 200), 3)
        self.check([("a", 5), ("b", 14)], (5, 200), 0, TEN)
        self.check([("a", 5), ("b", 10)], (5, 200), 0, TEN)

    def test_raised_amount(self):
        self.check([("a", 20), ("a", 30)], (21, 200), 25)
        self.check([("a", 20), ("b", 15), ("a", 30)], (21, 200), 13)
        self.check([("a", 20), ("a", 30), ("b", 25)], (27, 200), 3)
        self.check([("a", 20), ("a", 30), ("b", 29)], (30, 30), 0)

    def test_raised_amount_and_a_bid_between(self):
        # The bid of c is above the first amount of a, which does not count any more.
        self.check([("a", 20), ("b", 15), ("a", 30), ("c", 25)], (27, 200), 3)
        self.check([("a", 20), ("b", 20), ("a", 25)], (21, 200), 5)

    def test_led_and_lost_and_led_again(self):
        self.check([("a", 10), ("b", 20), ("a", 30)], (22, 200), 8)
        self.check([("a", 10), ("b", 20), ("a", 21)], (21, 21), 0)
        self.check([("a", 10), ("b", 20), ("a", 30), ("a", 25)], (25, 200), 8)
        self.check([("a", 10), ("b", 20), ("a", 30), ("a", 25), ("c", 28)], (30, 200), 0)

    def test_amount_of_200(self):
        self.check([("a", 200), ("b", 200)], (200, 200), 0)
        self.check([("a", 200), ("b", 195)], (200, 200), 0)
        self.check([("a", 200), ("b", 194)], (199, 200), 1)
        self.check([("a", 199), ("a", 200)], (200, 200), 195)

    def test_reserve_not_reached(self):
        sale = (STEPS, 5, 30)
        self.check([("a", 29)], (5, 29), 24, sale)
        self.check([("a", 20), ("b", 15)], (17, 29), 3, sale)
        self.check([("a", 20), ("b", 29)], (22, 29), 7, sale)
        self.check([("a", 28), ("a", 29)], (29, 29), 24, sale)
        self.check([("a", 199)], (5, 199), 194, (STEPS, 5, 200))

    def test_reserve_just_reached(self):
        sale = (STEPS, 5, 30)
        self.check([("a", 30)], (30, 200), 0, sale)
        self.check([("a", 31)], (30, 200), 1, sale)
        self.check([("a", 20), ("b", 30)], (30, 200), 0, sale)
        self.check([("a", 20), ("a", 30)], (30, 200), 0, sale)
        self.check([("a", 200)], (200, 200), 0, (STEPS, 5, 200))
        self.check([("a", 5)], (5, 200), 0, (STEPS, 5, 5))

    def test_eight_bids(self):
        self.check(EIGHT, (50, 200), 8)


class AsTheTextSays(unittest.TestCase):
    def test_all_amounts(self):
        kinds = {"no leader": 0, "known": 0, "bound above": 0, "bound below only": 0}
        for sale, bids in itertools.islice(further_cases(), 0, None, 3):
            case = (sale, bids)
            leader, price, amount = Model(sale, bids).state()
            self.assertEqual(still_to_pay(sale, bids), amount - price, case)
            if not leader:
                self.assertIs(known_amount(sale, bids), None, case)
                self.assertIs(is_known(sale, bids), False, case)
                kinds["no leader"] += 1
                continue
            amounts = possible_amounts(sale, bids)
            least, most = amounts[0], amounts[-1]
            self.assertEqual(known_amount(sale, bids), (least, most), case)
            self.assertEqual(amounts, list(range(least, most + 1)), case)
            self.assertIn(amount, amounts, case)
            self.assertIs(is_known(sale, bids), least == most, case)
            kinds["known"] += least == most
            kinds["bound above"] += least < most < 200
            kinds["bound below only"] += most == 200
        for kind, number in kinds.items():
            self.assertGreater(number, 30, kind)


if __name__ == "__main__":
    unittest.main()
