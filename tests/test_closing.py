"""[8.1] to [8.3]: bids that come late and make the sale longer."""

import unittest

from model import Model
from proxybids.closing import closing_time, counted, final, least_span
from samples import LAMP, timed_cases

STEPS = LAMP[0]
NONE = ("", 0, 0)
LATE = [(8, "a", 20), (12, "b", 15), (17, "c", 30)]


class Examples(unittest.TestCase):
    def test_closing_time(self):
        self.assertEqual(closing_time(LAMP, [(8, "a", 20), (12, "b", 15)], 10, 5), 17)

    def test_counted(self):
        self.assertEqual(counted(LAMP, [(8, "a", 20), (14, "b", 15)], 10, 5), [0])

    def test_final(self):
        self.assertEqual(final(LAMP, [(8, "a", 20), (14, "b", 15)], 10, 5), ("a", 5, 20))
        self.assertEqual(final(LAMP, [(8, "a", 20), (12, "b", 15)], 10, 5), ("a", 17, 20))

    def test_least_span(self):
        self.assertEqual(least_span(LAMP, [(8, "a", 20), (14, "b", 15)], 10), 6)


class Closing(unittest.TestCase):
    """Answers that were worked out by hand."""

    def check(self, timed, end, span, closes, many, state, sale=LAMP):
        with self.subTest(sale=sale, timed=timed, end=end, span=span):
            self.assertEqual(closing_time(sale, timed, end, span), closes)
            self.assertEqual(counted(sale, timed, end, span), list(range(many)))
            self.assertEqual(final(sale, timed, end, span), state)

    def test_no_bids(self):
        self.check([], 10, 5, 10, 0, NONE)
        self.check([], 0, 0, 0, 0, NONE)
        self.check([], 100, 20, 100, 0, NONE)

    def test_around_the_end(self):
        self.check([(9, "a", 20)], 10, 5, 14, 1, ("a", 5, 20))
        self.check([(10, "a", 20)], 10, 5, 15, 1, ("a", 5, 20))
        self.check([(11, "a", 20)], 10, 5, 10, 0, NONE)

    def test_around_span_before_the_end(self):
        self.check([(4, "a", 20)], 10, 5, 10, 1, ("a", 5, 20))
        self.check([(5, "a", 20)], 10, 5, 10, 1, ("a", 5, 20))
        self.check([(6, "a", 20)], 10, 5, 11, 1, ("a", 5, 20))

    def test_refused_bid_moves_nothing(self):
        self.check([(8, "a", 4)], 10, 5, 10, 1, NONE)
        self.check([(8, "a", 4), (11, "b", 20)], 10, 5, 10, 1, NONE)
        self.check([(6, "a", 20), (9, "a", 20)], 10, 5, 11, 2, ("a", 5, 20))
        self.check([(1, "a", 20), (2, "b", 15), (9, "c", 18)], 10, 5, 10, 3, ("a", 17, 20))
        self.check([(1, "a", 20), (2, "b", 15), (9, "c", 19)], 10, 5, 14, 3, ("a", 20, 20))

    def test_moved_end_lets_a_later_bid_count(self):
        self.check(LATE, 10, 5, 22, 3, ("c", 22, 30))
        self.check(LATE, 10, 4, 16, 2, ("a", 17, 20))
        self.check(LATE, 10, 3, 11, 1, ("a", 5, 20))
        self.check(LATE, 7, 20, 7, 0, NONE)

    def test_refused_bid_behind_the_first_end_counts(self):
        self.check([(8, "a", 20), (12, "b", 4), (14, "c", 30)], 10, 5, 13, 2, ("a", 5, 20))
        self.check([(8, "a", 20), (12, "b", 4), (13, "c", 30)], 10, 5, 18, 3, ("c", 22, 30))

    def test_nothing_counts_behind_the_end(self):
        self.check([(11, "a", 20), (11, "b", 30), (12, "c", 40)], 10, 20, 10, 0, NONE)
        # The bid of c would be refused by the one of b, but neither counts.
        self.check([(1, "a", 20), (11, "b", 15), (12, "c", 16)], 10, 5, 10, 1, ("a", 5, 20))

    def test_equal_times(self):
        self.check([(10, "a", 20), (10, "b", 15), (10, "c", 30)], 10, 5, 15, 3, ("c", 22, 30))
        self.check([(10, "a", 20), (10, "b", 15), (10, "c", 30)], 10, 0, 10, 3, ("c", 22, 30))
        self.check([(8, "a", 20), (12, "b", 15), (12, "c", 30)], 10, 5, 17, 3, ("c", 22, 30))
        self.check([(0, "a", 4), (0, "a", 5)], 0, 3, 3, 2, ("a", 5, 5))

    def test_span_0_and_20(self):
        self.check([(10, "a", 20), (11, "b", 15)], 10, 0, 10, 1, ("a", 5, 20))
        self.check([(10, "a", 20), (30, "b", 15)], 10, 20, 50, 2, ("a", 17, 20))
        self.check([(10, "a", 20), (31, "b", 15)], 10, 20, 30, 1, ("a", 5, 20))

    def test_span_longer_than_the_whole_time(self):
        self.check([(0, "a", 20)], 10, 20, 20, 1, ("a", 5, 20))
        self.check([(0, "a", 20), (20, "b", 15)], 0, 20, 40, 2, ("a", 17, 20))

    def test_end_never_becomes_earlier(self):
        self.check([(0, "a", 20), (1, "b", 15)], 50, 20, 50, 2, ("a", 17, 20))
        self.check([(45, "a", 20), (45, "b", 15)], 50, 5, 50, 2, ("a", 17, 20))

    def test_end_0_and_100(self):
        self.check([(0, "a", 20), (1, "b", 15)], 0, 0, 0, 1, ("a", 5, 20))
        self.check([(0, "a", 20), (1, "b", 15)], 0, 1, 2, 2, ("a", 17, 20))
        self.check([(100, "a", 20)], 100, 0, 100, 1, ("a", 5, 20))

    def test_end_greater_than_100(self):
        self.check([(100, "a", 20)], 100, 20, 120, 1, ("a", 5, 20))
        self.check([(81, "a", 20)], 100, 20, 101, 1, ("a", 5, 20))
        self.check([(90, "a", 20), (100, "b", 15)], 90, 10, 110, 2, ("a", 17, 20))

    def test_reserve(self):
        sale = (STEPS, 5, 30)
        self.check([(8, "a", 20), (9, "a", 30)], 10, 5, 14, 2, ("a", 30, 30), sale)
        self.check([(8, "a", 30), (9, "b", 30)], 10, 5, 13, 2, ("a", 30, 30), sale)

    def test_eight_bids(self):
        timed = [(5 * number, "ab"[number % 2], 10 + 2 * number) for number in range(8)]
        self.check(timed, 0, 5, 40, 8, ("b", 24, 24))
        self.check(timed, 0, 4, 4, 1, ("a", 5, 10))


class LeastSpan(unittest.TestCase):
    def check(self, timed, end, span):
        with self.subTest(timed=timed, end=end):
            self.assertEqual(least_span(LAMP, timed, end), span)

    def test_0(self):
        self.check([], 10, 0)
        self.check([], 0, 0)
        self.check([(10, "a", 20)], 10, 0)
        self.check([(8, "a", 20), (10, "b", 15), (10, "c", 4)], 10, 0)
        self.assertIs(type(least_span(LAMP, [], 10)), int)

    def test_20_and_none(self):
        self.check([(10, "a", 20), (30, "b", 15)], 10, 20)
        self.check([(10, "a", 20), (31, "b", 15)], 10, None)
        self.check([(80, "a", 20), (100, "b", 15)], 85, 20)

    def test_between(self):
        self.check(LATE, 10, 5)
        self.check([(8, "a", 20), (9, "b", 15), (14, "c", 30)], 10, 5)
        self.check([(0, "a", 20), (15, "b", 30)], 10, 15)
        self.check([(10, "a", 20), (11, "b", 15)], 10, 1)

    def test_none(self):
        self.check([(11, "a", 20)], 10, None)
        self.check([(0, "a", 20), (21, "b", 30)], 20, None)
        self.check([(8, "a", 4), (11, "b", 20)], 10, None)

    def test_refused_bids_are_counted(self):
        self.check([(8, "a", 20), (14, "b", 4)], 10, 6)
        # The bid at 14 moves nothing, so that only the first one can.
        self.check([(8, "a", 20), (14, "b", 4), (16, "c", 30)], 10, 8)


def by_text(sale, timed, end, span):
    """Return the end, the counted indexes and the state, sentence by sentence."""
    indexes = []
    for index, (time, _, _) in enumerate(timed):
        if time > end:
            continue
        indexes.append(index)
        bids = [timed[each][1:] for each in indexes]
        is_refused = len(bids) - 1 in Model(sale, bids).refused
        if not is_refused and end - time <= span and time + span > end:
            end = time + span
    return end, indexes, Model(sale, [timed[each][1:] for each in indexes]).state()


class AsTheTextSays(unittest.TestCase):
    def test_all_functions(self):
        kinds = {"moved": 0, "some not counted": 0, "all counted": 0, "later than 100": 0}
        for sale, timed, end, span in timed_cases(6000):
            case = (sale, timed, end, span)
            closes, indexes, state = by_text(*case)
            self.assertEqual(closing_time(*case), closes, case)
            self.assertEqual(counted(*case), indexes, case)
            self.assertEqual(final(*case), state, case)
            kinds["moved"] += closes > end
            kinds["later than 100"] += closes > 100
            kinds["some not counted"] += 0 < len(indexes) < len(timed)
            kinds["all counted"] += len(indexes) == len(timed)
        for kind, number in kinds.items():
            self.assertGreater(number, 200, kind)

    def test_least_span(self):
        kinds = {"None": 0, "0": 0, "between": 0}
        for sale, timed, end, _ in timed_cases(1500):
            case = (sale, timed, end)
            spans = [span for span in range(21)
                     if len(by_text(sale, timed, end, span)[1]) == len(timed)]
            expected = spans[0] if spans else None
            self.assertEqual(least_span(*case), expected, case)
            kinds[str(expected) if expected in (None, 0) else "between"] += 1
        for kind, number in kinds.items():
            self.assertGreater(number, 100, kind)

    def test_with_a_greater_span_no_bid_is_lost(self):
        for sale, timed, end, _ in timed_cases(1500):
            before = []
            for span in range(21):
                now = counted(sale, timed, end, span)
                self.assertEqual(now[:len(before)], before, (sale, timed, end, span))
                before = now


if __name__ == "__main__":
    unittest.main()
