"""[5.1] to [5.3]: bids that matter."""

import itertools
import unittest

from model import Model
from proxybids.effects import deciding, needless, raisers, without_bid
from proxybids.errors import InvalidBids, InvalidIndex, InvalidSale
from samples import (LAMP, NOT_BID_LISTS, NOT_BIDDERS, NOT_INTEGERS, NOT_SALES, large_cases,
                     small_cases)

STEPS = LAMP[0]
BIDS = [("a", 20), ("b", 15)]
NONE = ("", 0, 0)


class Examples(unittest.TestCase):
    def test_without_bid(self):
        self.assertEqual(without_bid(LAMP, BIDS, 1), ("a", 5, 20))

    def test_raisers(self):
        self.assertEqual(raisers(LAMP, BIDS), [1])

    def test_needless(self):
        self.assertEqual(needless(LAMP, [("a", 20), ("b", 15), ("c", 16)]), [2])

    def test_deciding(self):
        self.assertEqual(deciding(LAMP, [("a", 20), ("b", 15), ("c", 16)]), [0])


class Effects(unittest.TestCase):
    """Answers that were worked out by hand."""

    def check(self, sale, bids, without, raising=(), useless=(), decisive=()):
        with self.subTest(sale=sale, bids=bids):
            found = [without_bid(sale, bids, index) for index in range(len(bids))]
            self.assertEqual(found, without)
            self.assertEqual(raisers(sale, bids), list(raising))
            self.assertEqual(needless(sale, bids), list(useless))
            self.assertEqual(deciding(sale, bids), list(decisive))

    def test_no_bids(self):
        self.check(LAMP, [], [])

    def test_no_leader_without_the_bid(self):
        self.check(LAMP, [("a", 20)], [NONE], decisive=[0])
        self.check(LAMP, [("a", 4), ("b", 20)], [("b", 5, 20), NONE], useless=[0], decisive=[1])

    def test_no_leader_at_all(self):
        self.check(LAMP, [("a", 4)], [NONE], useless=[0])
        self.check(LAMP, [("a", 4), ("b", 4)], [NONE] * 2, useless=[0, 1])

    def test_refused(self):
        bids = [("a", 3), ("a", 20), ("b", 15), ("c", 18), ("a", 20)]
        same = ("a", 17, 20)
        self.check(LAMP, bids, [same, ("a", 20, 20), ("a", 20, 20), same, same],
                   useless=[0, 3, 4])

    def test_another_leader_without_the_bid(self):
        self.check(LAMP, [("a", 20), ("b", 15), ("c", 16)],
                   [("c", 16, 16), ("a", 18, 20), ("a", 17, 20)], useless=[2], decisive=[0])
        self.check(LAMP, [("a", 20), ("b", 30)], [("b", 5, 30), ("a", 5, 20)],
                   raising=[0], decisive=[1])
        self.check(LAMP, [("a", 20), ("b", 20)], [("b", 5, 20), ("a", 5, 20)],
                   raising=[1], decisive=[0])

    def test_only_the_price_is_another_one(self):
        self.check(LAMP, [("a", 20), ("b", 15)], [("b", 5, 15), ("a", 5, 20)],
                   raising=[1], decisive=[0])
        self.check(LAMP, [("a", 20), ("b", 15), ("c", 19)],
                   [("c", 17, 19), ("a", 20, 20), ("a", 17, 20)], raising=[2], useless=[1],
                   decisive=[0])

    def test_greater_price_without_the_bid(self):
        # Without it, a bid that it shut out is not refused.
        bids = [("a", 20), ("b", 10), ("c", 11)]
        self.check(LAMP, bids, [("c", 11, 11), ("a", 13, 20), ("a", 12, 20)], useless=[2],
                   decisive=[0])

    def test_only_the_leaders_amount_is_another_one(self):
        self.check(LAMP, [("a", 20), ("a", 30)], [("a", 5, 30), ("a", 5, 20)], useless=[0])
        self.check(LAMP, [("a", 20), ("b", 15), ("a", 30)],
                   [("a", 17, 30), ("a", 5, 30), ("a", 17, 20)], raising=[1], useless=[0])

    def test_reserve(self):
        sale = (STEPS, 5, 30)
        self.check(sale, [("a", 20), ("a", 30)], [("a", 30, 30), ("a", 5, 20)],
                   raising=[1], useless=[0])
        self.check(sale, [("a", 20), ("b", 30)], [("b", 30, 30), ("a", 5, 20)],
                   useless=[0], decisive=[1])

    def test_equal_bids(self):
        self.check(LAMP, [("a", 20), ("a", 20)], [("a", 5, 20)] * 2, useless=[0, 1])

    def test_eight_bids(self):
        bids = [("a", 3), ("b", 30), ("c", 10), ("d", 40), ("b", 33), ("b", 50), ("e", 50), ("d", 9)]
        last = ("b", 50, 50)
        self.check(LAMP, bids, [last, last, last, last, last, ("e", 42, 50), ("b", 42, 50), last],
                   raising=[6], useless=[0, 1, 2, 3, 4, 7], decisive=[5])


class AsTheTextSays(unittest.TestCase):
    def cases(self):
        yield from itertools.islice(small_cases(), 0, None, 7)
        yield from itertools.islice(large_cases(), 8000)

    def test_all_functions(self):
        reached = {"raising": 0, "useless": 0, "decisive": 0, "nothing": 0}
        for sale, bids in self.cases():
            case = (sale, bids)
            last = Model(sale, bids).state()
            expected = {kind: [] for kind in reached}
            for index in range(len(bids)):
                state = Model(sale, [bid for at, bid in enumerate(bids) if at != index]).state()
                self.assertEqual(without_bid(sale, bids, index), state, case)
                if state == last:
                    kind = "useless"
                elif state[0] != last[0]:
                    kind = "decisive"
                else:
                    kind = "raising" if state[1] < last[1] else "nothing"
                expected[kind].append(index)
                reached[kind] += 1
            self.assertEqual(raisers(sale, bids), expected["raising"], case)
            self.assertEqual(needless(sale, bids), expected["useless"], case)
            self.assertEqual(deciding(sale, bids), expected["decisive"], case)
        for kind, number in reached.items():
            self.assertGreater(number, 1000, kind)


class WrongInputs(unittest.TestCase):
    def calls(self):
        """Return functions of a sale and bids."""
        calls = [raisers, needless, deciding]
        for index in (0, -1, 5, True, None, "0", [0]):
            calls.append(lambda sale, bids, index=index: without_bid(sale, bids, index))
        return calls

    def test_wrong_sale(self):
        for call in self.calls():
            for wrong in NOT_SALES + NOT_INTEGERS:
                for bids in ([], BIDS, None, [("a", 0)]):
                    with self.subTest(wrong=wrong, bids=bids), self.assertRaises(InvalidSale):
                        call(wrong, bids)

    def test_wrong_bids(self):
        nine = [("a", 20)] * 9
        wrong_lists = NOT_BID_LISTS + [nine, [("a", 0)], [("a", 201)]]
        wrong_lists += [[("a", 20), ("b", wrong)] for wrong in NOT_INTEGERS]
        wrong_lists += [[("a", 20), (wrong, 30)] for wrong in NOT_BIDDERS]
        for call in self.calls():
            for wrong in wrong_lists:
                with self.subTest(wrong), self.assertRaises(InvalidBids):
                    call(LAMP, wrong)

    def test_index(self):
        self.assertEqual(without_bid(LAMP, BIDS, 0), ("b", 5, 15))
        self.assertEqual(without_bid(LAMP, BIDS, 1), ("a", 5, 20))
        for wrong in [2, 3, -1, -2, 10 ** 30, "0", "1", (0,), [1]] + NOT_INTEGERS:
            with self.subTest(wrong), self.assertRaises(InvalidIndex):
                without_bid(LAMP, BIDS, wrong)

    def test_index_in_one_bid_and_in_eight(self):
        eight = [("a", 10 + number) for number in range(8)]
        self.assertEqual(without_bid(LAMP, eight, 7), ("a", 5, 16))
        for bids, wrong in [(eight, 8), (eight, -1), (eight, -8), (eight, True), (BIDS[:1], 1),
                            (BIDS[:1], -1), (BIDS[:1], False)]:
            with self.subTest(bids=bids, wrong=wrong), self.assertRaises(InvalidIndex):
                without_bid(LAMP, bids, wrong)

    def test_index_without_bids(self):
        for wrong in [0, 1, -1] + NOT_INTEGERS:
            with self.subTest(wrong), self.assertRaises(InvalidIndex):
                without_bid(LAMP, [], wrong)


if __name__ == "__main__":
    unittest.main()
