"""[10.1] to [10.3]: a sale that goes on."""

import random
import unittest

from model import Model
from proxybids.desk import Desk
from proxybids.errors import InvalidBid, InvalidPrice, InvalidSale, NothingToUndo, TooLarge
from samples import (LAMP, NOT_BIDDERS, NOT_INTEGERS, NOT_SALES, SMALL_SALES, random_sale, spoiled)

STEPS = LAMP[0]
HIGH = (STEPS, 5, 30)


def desk_with(sale, bids):
    """Return a desk with bids."""
    desk = Desk(sale)
    for bidder, amount in bids:
        desk.bid(bidder, amount)
    return desk


class New(unittest.TestCase):
    def test_no_bids(self):
        desk = Desk(LAMP)
        self.assertEqual(desk.bids(), [])
        self.assertEqual(desk.result(), ("", 0, 0))
        self.assertEqual(len(desk), 0)

    def test_wrong_sale(self):
        for wrong in NOT_SALES + NOT_INTEGERS + [(STEPS, 5, 4)] + list(spoiled(LAMP)):
            with self.subTest(wrong), self.assertRaises(InvalidSale):
                Desk(wrong)


class Bid(unittest.TestCase):
    def check(self, sale, told, state):
        """Check what a desk says of each bid, and the state and the bids at the end."""
        with self.subTest(sale=sale, told=told):
            desk = Desk(sale)
            for bidder, amount, word in told:
                self.assertEqual(desk.bid(bidder, amount), word)
            self.assertEqual(desk.result(), state)
            self.assertEqual(desk.bids(), [(bidder, amount) for bidder, amount, _ in told])
            self.assertEqual(len(desk), len(told))

    def test_example(self):
        desk = Desk(LAMP)
        desk.bid("a", 20)
        self.assertEqual(desk.bid("b", 15), "raised")

    def test_refused(self):
        self.check(LAMP, [("a", 4, "refused")], ("", 0, 0))
        self.check(LAMP, [("a", 4, "refused"), ("a", 5, "leads")], ("a", 5, 5))
        self.check(LAMP, [("a", 20, "leads"), ("a", 20, "refused"), ("b", 5, "refused")],
                   ("a", 5, 20))

    def test_refused_above_the_leaders_amount(self):
        self.check((((0, 10),), 5, 5), [("a", 5, "leads"), ("b", 14, "refused"),
                                        ("b", 15, "leads")], ("b", 15, 15))

    def test_leads(self):
        self.check(LAMP, [("a", 5, "leads"), ("b", 6, "leads"), ("a", 30, "leads")], ("a", 7, 30))
        # The price becomes greater as well, which is told only otherwise.
        self.check(LAMP, [("a", 20, "leads"), ("b", 30, "leads")], ("b", 22, 30))
        self.check(HIGH, [("a", 30, "leads")], ("a", 30, 30))

    def test_raised(self):
        self.check(LAMP, [("a", 20, "leads"), ("b", 15, "raised"), ("c", 19, "raised")],
                   ("a", 20, 20))
        self.check(LAMP, [("a", 20, "leads"), ("b", 20, "raised")], ("a", 20, 20))

    def test_kept(self):
        self.check(LAMP, [("a", 20, "leads"), ("a", 21, "kept"), ("a", 200, "kept")],
                   ("a", 5, 200))
        self.check(HIGH, [("a", 20, "leads"), ("a", 29, "kept")], ("a", 5, 29))
        self.check(HIGH, [("a", 30, "leads"), ("a", 40, "kept")], ("a", 30, 40))

    def test_leader_makes_the_price_greater(self):
        self.check(HIGH, [("a", 20, "leads"), ("a", 30, "raised")], ("a", 30, 30))
        self.check(HIGH, [("a", 20, "leads"), ("a", 29, "kept"), ("a", 31, "raised"),
                          ("a", 32, "kept")], ("a", 30, 32))

    def test_another_reaches_the_reserve(self):
        self.check(HIGH, [("a", 20, "leads"), ("b", 30, "leads")], ("b", 30, 30))

    def test_nine_bids(self):
        told = [("a", 10, "leads"), ("b", 20, "leads"), ("a", 30, "leads"), ("a", 40, "kept"),
                ("c", 35, "raised"), ("b", 50, "leads"), ("b", 50, "refused"), ("f", 9, "refused")]
        self.check(LAMP, told, ("b", 42, 50))
        desk = desk_with(LAMP, [row[:2] for row in told])
        for bidder, amount in [("c", 60), ("b", 60), ("f", 1)]:
            with self.assertRaises(TooLarge):
                desk.bid(bidder, amount)
        self.assertEqual((len(desk), desk.result()), (8, ("b", 42, 50)))
        desk.undo()
        self.assertEqual(desk.bid("c", 60), "leads")
        self.assertEqual(len(desk), 8)

    def test_wrong_bid(self):
        pairs = [(wrong, 20) for wrong in NOT_BIDDERS]
        pairs += [("a", wrong) for wrong in NOT_INTEGERS + [0, 201, -1, 10 ** 30]]
        pairs += [(None, None), ("g", 0), (20, "a"), (("a", 20), 20)]
        full = [("a", 10)] * 8
        for bids in ([], [("a", 20)], full):
            for bidder, amount in pairs:
                desk = desk_with(LAMP, bids)
                # The error of the bid comes before the one of the 8 bids.
                with self.subTest(bids=bids, pair=(bidder, amount)):
                    self.assertRaises(InvalidBid, desk.bid, bidder, amount)
                    self.assertEqual(desk.bids(), bids)


class Lower(unittest.TestCase):
    def test_returns_the_state(self):
        desk = desk_with(HIGH, [("a", 20), ("b", 15)])
        self.assertEqual(desk.result(), ("a", 17, 20))
        self.assertEqual(desk.lower(29), ("a", 17, 20))
        self.assertEqual(desk.lower(20), ("a", 20, 20))
        self.assertEqual(desk.lower(18), ("a", 18, 20))
        self.assertEqual(desk.lower(5), ("a", 17, 20))
        self.assertEqual(desk.result(), ("a", 17, 20))

    def test_without_bids(self):
        desk = Desk(HIGH)
        self.assertEqual(desk.lower(10), ("", 0, 0))
        self.assertEqual(desk.bid("a", 12), "leads")
        self.assertEqual(desk.result(), ("a", 10, 12))

    def test_bids_are_taken_or_refused_anew(self):
        desk = desk_with(HIGH, [("a", 28), ("b", 7), ("c", 9)])
        self.assertEqual(desk.result(), ("a", 10, 28))
        # The price is 20 at once, so that the other bids are refused.
        self.assertEqual(desk.lower(20), ("a", 20, 28))
        self.assertEqual(desk.bids(), [("a", 28), ("b", 7), ("c", 9)])
        self.assertEqual(desk.bid("d", 21), "refused")

    def test_another_leader(self):
        sale = (((0, 10),), 5, 40)
        desk = desk_with(sale, [("a", 20), ("b", 25)])
        self.assertEqual(desk.result(), ("b", 25, 25))
        self.assertEqual(desk.lower(18), ("a", 18, 20))

    def test_bounds(self):
        for reserve in (5, 6, 29):
            desk = Desk(HIGH)
            self.assertEqual(desk.lower(reserve), ("", 0, 0))
            self.assertEqual(desk, Desk((STEPS, 5, reserve)))
        for wrong in [4, 30, 31, 0, -1, -30, 200, 10 ** 30] + NOT_INTEGERS:
            desk = desk_with(HIGH, [("a", 20)])
            with self.subTest(wrong):
                self.assertRaises(InvalidPrice, desk.lower, wrong)
                self.assertEqual(desk, desk_with(HIGH, [("a", 20)]))

    def test_reserve_at_start(self):
        desk = Desk(HIGH)
        desk.lower(5)
        for wrong in (5, 4, 6, 29, True):
            self.assertRaises(InvalidPrice, desk.lower, wrong)

    def test_true_where_1_is_right(self):
        sale = (((0, 1),), 1, 3)
        self.assertRaises(InvalidPrice, Desk(sale).lower, True)
        self.assertEqual(Desk(sale).lower(1), ("", 0, 0))

    def test_present_reserve_counts(self):
        desk = Desk(HIGH)
        desk.lower(20)
        for wrong in (29, 21, 20):
            self.assertRaises(InvalidPrice, desk.lower, wrong)
        desk.undo()
        desk.lower(29)

    def test_with_eight_bids(self):
        desk = desk_with(HIGH, [("a", 20)] * 8)
        self.assertEqual(desk.lower(10), ("a", 10, 20))


class UndoAndRedo(unittest.TestCase):
    def test_nothing(self):
        for desk in (Desk(LAMP), desk_with(LAMP, [("a", 20)])):
            self.assertRaises(NothingToUndo, desk.redo)
        desk = Desk(LAMP)
        self.assertRaises(NothingToUndo, desk.undo)
        desk.bid("a", 20)
        desk.undo()
        self.assertRaises(NothingToUndo, desk.undo)
        desk.redo()
        self.assertRaises(NothingToUndo, desk.redo)

    def test_return_none(self):
        desk = desk_with(LAMP, [("a", 20)])
        self.assertIs(desk.undo(), None)
        self.assertIs(desk.redo(), None)

    def test_bids(self):
        desk = desk_with(LAMP, [("a", 20), ("b", 15), ("c", 18)])
        for many, state in [(2, ("a", 17, 20)), (1, ("a", 5, 20)), (0, ("", 0, 0))]:
            desk.undo()
            self.assertEqual((len(desk), desk.result()), (many, state))
        for many, state in [(1, ("a", 5, 20)), (2, ("a", 17, 20)), (3, ("a", 17, 20))]:
            desk.redo()
            self.assertEqual((len(desk), desk.result()), (many, state))
        self.assertEqual(desk.bids(), [("a", 20), ("b", 15), ("c", 18)])

    def test_refused_bid_is_a_call_of_its_own(self):
        desk = desk_with(LAMP, [("a", 20)])
        desk.bid("b", 4)
        desk.undo()
        self.assertEqual(desk.bids(), [("a", 20)])
        desk.redo()
        self.assertEqual(desk.bids(), [("a", 20), ("b", 4)])

    def test_refused_bid_clears_what_can_be_redone(self):
        desk = desk_with(LAMP, [("a", 20), ("b", 15)])
        desk.undo()
        self.assertEqual(desk.bid("b", 4), "refused")
        self.assertRaises(NothingToUndo, desk.redo)

    def test_lower(self):
        desk = desk_with(HIGH, [("a", 20)])
        desk.lower(10)
        desk.bid("b", 15)
        self.assertEqual(desk.result(), ("a", 17, 20))
        desk.undo()
        self.assertEqual(desk.result(), ("a", 10, 20))
        desk.undo()
        self.assertEqual(desk.result(), ("a", 5, 20))
        self.assertEqual(desk, desk_with(HIGH, [("a", 20)]))
        desk.redo()
        self.assertEqual(desk.result(), ("a", 10, 20))
        self.assertEqual(desk, desk_with((STEPS, 5, 10), [("a", 20)]))
        desk.redo()
        self.assertEqual(desk.result(), ("a", 17, 20))

    def test_new_call_clears_what_can_be_redone(self):
        desk = desk_with(HIGH, [("a", 20), ("b", 15)])
        desk.undo()
        desk.bid("c", 16)
        self.assertRaises(NothingToUndo, desk.redo)
        self.assertEqual(desk.bids(), [("a", 20), ("c", 16)])
        desk.undo()
        desk.lower(10)
        self.assertRaises(NothingToUndo, desk.redo)
        self.assertEqual(desk.bids(), [("a", 20)])

    def test_call_that_fails_clears_nothing(self):
        desk = desk_with(HIGH, [("a", 20), ("b", 15)])
        desk.undo()
        self.assertRaises(InvalidBid, desk.bid, "g", 16)
        self.assertRaises(InvalidPrice, desk.lower, 30)
        self.assertRaises(InvalidPrice, desk.lower, True)
        desk.redo()
        self.assertEqual(desk.bids(), [("a", 20), ("b", 15)])
        self.assertRaises(NothingToUndo, desk.redo)
        desk.undo()
        desk.undo()
        self.assertRaises(NothingToUndo, desk.undo)
        desk.redo()
        self.assertEqual(desk.bids(), [("a", 20)])

    def test_too_many_bids_are_nothing_to_undo(self):
        desk = desk_with(LAMP, [("a", 10 + number) for number in range(8)])
        self.assertRaises(TooLarge, desk.bid, "b", 40)
        desk.undo()
        self.assertEqual(len(desk), 7)


class Copy(unittest.TestCase):
    def test_independent(self):
        desk = desk_with(HIGH, [("a", 20), ("b", 15)])
        twin = desk.copy()
        self.assertIsNot(twin, desk)
        self.assertEqual(twin, desk)
        twin.bid("c", 40)
        self.assertEqual(desk.bids(), [("a", 20), ("b", 15)])
        desk.lower(10)
        self.assertEqual(twin.result(), ("c", 30, 40))
        desk.undo()
        desk.undo()
        self.assertEqual(desk.bids(), [("a", 20)])
        self.assertEqual(twin.bids(), [("a", 20), ("b", 15), ("c", 40)])

    def test_has_history_and_redo_list(self):
        desk = desk_with(HIGH, [("a", 20), ("b", 15), ("c", 25)])
        desk.lower(10)
        desk.undo()
        desk.undo()
        twin = desk.copy()
        third = twin.copy()
        # One after the other: what one desk does is not seen in the others.
        for each in (desk, twin, third):
            each.redo()
            each.redo()
            self.assertRaises(NothingToUndo, each.redo)
            self.assertEqual(each, desk_with((STEPS, 5, 10), [("a", 20), ("b", 15), ("c", 25)]))
            for _ in range(4):
                each.undo()
            self.assertRaises(NothingToUndo, each.undo)
            self.assertEqual(each, Desk(HIGH))

    def test_new_call_clears_only_its_own_redo_list(self):
        desk = desk_with(HIGH, [("a", 20), ("b", 15)])
        desk.undo()
        twin = desk.copy()
        twin.bid("c", 25)
        self.assertRaises(NothingToUndo, twin.redo)
        desk.redo()
        self.assertEqual(desk.bids(), [("a", 20), ("b", 15)])
        third = desk.copy()
        desk.undo()
        self.assertRaises(NothingToUndo, third.redo)

    def test_of_a_new_desk(self):
        twin = Desk(LAMP).copy()
        self.assertRaises(NothingToUndo, twin.undo)
        self.assertRaises(NothingToUndo, twin.redo)
        self.assertEqual(twin, Desk(LAMP))
        self.assertIs(type(twin), Desk)


class Equal(unittest.TestCase):
    def same(self, one, other):
        self.assertIs(one == other, True)
        self.assertIs(one != other, False)

    def differ(self, one, other):
        self.assertIs(one == other, False)
        self.assertIs(one != other, True)

    def test_sale_and_bids(self):
        bids = [("a", 20), ("b", 15)]
        self.same(Desk(LAMP), Desk(LAMP))
        self.same(desk_with(LAMP, bids), desk_with(LAMP, bids))
        self.differ(desk_with(LAMP, bids), desk_with(LAMP, bids[:1]))
        self.differ(desk_with(LAMP, bids), desk_with(LAMP, bids[::-1]))
        self.differ(desk_with(LAMP, bids), Desk(LAMP))
        # The state is the same, but the bids are not.
        self.differ(desk_with(LAMP, bids), desk_with(LAMP, bids + [("c", 4)]))

    def test_another_sale(self):
        for sale in (HIGH, (STEPS, 4, 5), (STEPS[:2], 5, 5)):
            self.differ(Desk(LAMP), Desk(sale))
            self.differ(desk_with(LAMP, [("a", 20)]), desk_with(sale, [("a", 20)]))

    def test_another_history(self):
        one = desk_with(HIGH, [("a", 20)])
        one.lower(10)
        other = Desk(HIGH)
        other.lower(12)
        other.bid("b", 15)
        other.undo()
        other.lower(10)
        self.differ(one, other)
        other.bid("a", 20)
        self.same(one, other)
        other.bid("c", 30)
        other.undo()
        self.same(one, other)
        self.same(one, desk_with((STEPS, 5, 10), [("a", 20)]))

    def test_other_objects(self):
        desk = desk_with(LAMP, [("a", 20)])
        for other in [None, True, False, 0, 1, "", "a:20", [], [("a", 20)], (), (("a", 20),),
                      LAMP, (LAMP, [("a", 20)]), (LAMP, (("a", 20),)), ("a", 5, 20), {}, Desk]:
            with self.subTest(other):
                self.differ(desk, other)
                self.differ(other, desk)
                self.differ(Desk(LAMP), other)

    def test_in_a_list(self):
        self.assertIn(Desk(LAMP), [None, Desk(LAMP)])
        self.assertNotIn(Desk(LAMP), [None, Desk(HIGH), []])


class Lists(unittest.TestCase):
    def test_returned_list_may_be_changed(self):
        desk = desk_with(LAMP, [("a", 20), ("b", 15)])
        for change in (list.clear, list.reverse, lambda bids: bids.append(("c", 30))):
            first = desk.bids()
            change(first)
            self.assertEqual(desk.bids(), [("a", 20), ("b", 15)])
            self.assertEqual(desk.result(), ("a", 17, 20))
            self.assertEqual(len(desk), 2)
        self.assertIsNot(desk.bids(), desk.bids())

    def test_returned_list_is_not_changed_by_the_desk(self):
        desk = desk_with(LAMP, [("a", 20)])
        first = desk.bids()
        desk.bid("b", 15)
        desk.undo()
        desk.undo()
        self.assertEqual(first, [("a", 20)])

    def test_kinds(self):
        desk = desk_with(LAMP, [("a", 20)])
        self.assertIs(type(desk.bids()), list)
        self.assertEqual([type(bid) for bid in desk.bids()], [tuple])
        self.assertEqual([type(part) for part in desk.result()], [str, int, int])
        self.assertIs(type(desk.result()), tuple)
        self.assertIs(type(len(desk)), int)

    def test_asking_twice(self):
        desk = desk_with(HIGH, [("a", 20), ("b", 15)])
        for _ in range(2):
            self.assertEqual(desk.bids(), [("a", 20), ("b", 15)])
            self.assertEqual(desk.result(), ("a", 17, 20))
            self.assertEqual(len(desk), 2)


class Whole:
    """[10.1] to [10.3] once more: a desk is never changed, but another one is made of it."""

    def __init__(self, sale, bids, earlier=None, later=None):
        self.sale, self.bids = sale, bids
        self.earlier, self.later = earlier, later
        self.state = Model(sale, bids).state()

    def bid(self, bidder, amount):
        """Return what is told, and the desk after it."""
        is_letter = isinstance(bidder, str) and bidder in list("abcdef")
        if not is_letter or type(amount) is not int or not 1 <= amount <= 200:
            raise InvalidBid
        if len(self.bids) == 8:
            raise TooLarge
        after = Whole(self.sale, self.bids + [(bidder, amount)], self)
        if len(self.bids) in Model(self.sale, after.bids).refused:
            return "refused", after
        if after.state[0] == bidder and self.state[0] != bidder:
            return "leads", after
        if after.state[1] > self.state[1]:
            return "raised", after
        return "kept", after

    def lower(self, reserve):
        steps, start, present = self.sale
        if type(reserve) is not int or not start <= reserve <= present - 1:
            raise InvalidPrice
        after = Whole((steps, start, reserve), self.bids, self)
        return after.state, after

    def undo(self):
        if self.earlier is None:
            raise NothingToUndo
        before = self.earlier
        return None, Whole(before.sale, before.bids, before.earlier, self)

    def redo(self):
        if self.later is None:
            raise NothingToUndo
        return None, self.later


class AsTheTextSays(unittest.TestCase):
    def call(self, source, reserve):
        """Return the name of a method and its arguments, some of them wrong."""
        kind = source.randint(0, 11)
        if kind < 5:
            bidder = source.choice("abcdef" if source.randint(0, 9) else ["g", "", None, "ab", 1])
            amount = source.choice([source.randint(1, 12), source.randint(1, 200)])
            if source.randint(0, 9) == 0:
                amount = source.choice([0, 201, True, None, "5"])
            return "bid", [bidder, amount]
        if kind < 7:
            near = [source.randint(0, reserve), reserve - 1, reserve, True, None, "5"]
            return "lower", [source.choice(near)]
        return ("undo" if kind < 10 else "redo"), []

    def check_call(self, desk, whole, name, arguments):
        """Call the same of both, compare what they answer, and return the other one's desk."""
        try:
            answer, after = getattr(whole, name)(*arguments)
        except ValueError as error:
            with self.assertRaises(type(error)) as caught:
                getattr(desk, name)(*arguments)
            self.assertIs(type(caught.exception), type(error))
            self.seen[type(error).__name__] = self.seen.get(type(error).__name__, 0) + 1
            return whole
        told = getattr(desk, name)(*arguments)
        self.assertEqual((type(told), told), (type(answer), answer))
        word = answer if name == "bid" else name
        self.seen[word] = self.seen.get(word, 0) + 1
        return after

    def check_desk(self, desk, whole):
        self.assertEqual(desk.bids(), whole.bids)
        self.assertEqual(desk.result(), whole.state)
        self.assertEqual(len(desk), len(whole.bids))

    def test_random_runs(self):
        self.seen = {}
        source = random.Random(101)
        for _ in range(150):
            sale = source.choice(SMALL_SALES + [LAMP, HIGH, random_sale(source)])
            desks = [(Desk(sale), Whole(sale, []))]
            for _ in range(60):
                number = source.randrange(len(desks))
                desk, whole = desks[number]
                if source.randint(0, 9) == 0:
                    desks = (desks + [(desk.copy(), whole)])[-4:]
                    continue
                name, arguments = self.call(source, whole.sale[2])
                desks[number] = desk, self.check_call(desk, whole, name, arguments)
                # No desk has been touched by what another one did.
                for each, other in desks:
                    self.check_desk(each, other)
                for each, other in desks:
                    is_same = (other.sale, other.bids) == (whole.sale, whole.bids)
                    again = desk_with(whole.sale, whole.bids)
                    self.assertIs(each == again, is_same)
        for word in ["refused", "leads", "raised", "kept", "lower", "undo", "redo", "InvalidBid",
                     "InvalidPrice", "TooLarge", "NothingToUndo"]:
            self.assertGreater(self.seen.get(word, 0), 40, word)


if __name__ == "__main__":
    unittest.main()
