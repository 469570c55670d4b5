"""[11.1] and [11.2]: formats of bids, and the journal."""

import random
import re
import unittest

from model import Model
from proxybids.errors import InvalidBids, InvalidSale, ParseError
from proxybids.formats import format_bids, journal, parse_bids
from samples import (LAMP, NOT_BID_LISTS, NOT_INTEGERS, NOT_SALES, large_cases, small_cases,
                     spoiled)

STEPS = LAMP[0]
BIDS = [("a", 20), ("b", 15)]
ONE = "[a-f]:(?:[1-9][0-9]?|1[0-9][0-9]|200)"
# The format once more, as a pattern.
PATTERN = re.compile("(?:%s(?: %s){0,7})?" % (ONE, ONE))


class Examples(unittest.TestCase):
    def test_format_bids(self):
        self.assertEqual(format_bids(BIDS), "a:20 b:15")

    def test_parse_bids(self):
        self.assertEqual(parse_bids("a:20 b:15"), BIDS)

    def test_journal(self):
        self.assertEqual(journal(LAMP, [("a", 4), ("a", 20)]),
                         ["a:4 -> - refused", "a:20 -> a:5"])


class Formats(unittest.TestCase):
    def same(self, bids, text):
        with self.subTest(text):
            self.assertEqual(format_bids(bids), text)
            self.assertEqual(parse_bids(text), bids)

    def test_numbers_of_bids(self):
        self.same([], "")
        self.same([("a", 20)], "a:20")
        self.same([("f", 200), ("a", 1), ("f", 200)], "f:200 a:1 f:200")
        self.same([("a", 20)] * 8, "a:20 a:20 a:20 a:20 a:20 a:20 a:20 a:20")

    def test_each_amount(self):
        for amount in range(1, 201):
            self.same([("c", amount)], "c:" + str(amount))

    def test_each_bidder(self):
        for letter in "abcdef":
            self.same([(letter, 7), ("a", 7)], letter + ":7 a:7")

    def test_many_lists(self):
        for _, bids in large_cases():
            text = format_bids(bids)
            self.assertTrue(PATTERN.fullmatch(text), text)
            self.assertEqual(parse_bids(text), bids)

    def test_kinds(self):
        self.assertIs(type(format_bids(BIDS)), str)
        self.assertIs(type(format_bids([])), str)
        self.assertIs(type(parse_bids("a:20")), list)
        self.assertEqual([type(bid) for bid in parse_bids("a:20 b:15")], [tuple, tuple])
        self.assertEqual([type(part) for part in parse_bids("a:20")[0]], [str, int])

    def test_new_lists(self):
        for text in ("", "a:20 b:15"):
            first = parse_bids(text)
            expected = list(first)
            first.append("x")
            self.assertEqual(parse_bids(text), expected)


class NoFormat(unittest.TestCase):
    def no(self, *texts):
        for text in texts:
            with self.subTest(text), self.assertRaises(ParseError) as caught:
                parse_bids(text)
            self.assertIs(type(caught.exception), ParseError)

    def test_nine_bids(self):
        self.no(" ".join(["a:20"] * 9), " ".join(["a:20"] * 100))

    def test_zeros_and_signs(self):
        self.no("a:020", "a:0020", "a:05", "a:00", "a:+20", "a:-20", "a:- 20", "a:2_0", "a:20.0",
                "a:2e1", "a:0x5", "a:20,")

    def test_blanks(self):
        self.no(" ", "  ", " a:20", "a:20 ", "a:20  b:15", "a: 20", "a :20", "a:2 0", "a:20 b: 15")

    def test_other_blanks(self):
        for blank in "\t\n\r\v\f\0\x1c\x85\xa0\u2003\u3000":
            self.no("a:20" + blank + "b:15", blank + "a:20", "a:20" + blank, "a:" + blank + "20",
                    "a" + blank + ":20", blank, "a:20 " + blank + "b:15")

    def test_amounts(self):
        self.no("a:0", "a:201", "a:1000", "a:999", "a:20 b:0", "a:20 b:201", "a:" + "9" * 5000,
                "a:" + "0" * 5000 + "5")

    def test_missing_parts(self):
        self.no("a:", "a", ":20", ":", "20", "a20", "a:20 b", "a:20 b:", "a:20 :15", "a:20 15",
                "a:20b:15", "a:20,b:15", "a:20;b:15", "a: b:15")

    def test_bidders(self):
        self.no("g:20", "A:20", "F:20", "ab:20", "aa:20", "abcdef:20", "1:20", "`:20", "*:20",
                "\u0430:20", "\uff41:20", "a:20 g:15")

    def test_colons(self):
        self.no("a::20", ":a:20", "a:20:", "a:2:0", "a:20::b:15", "a;20", "a=20", "a\uff1a20")

    def test_digits_of_other_scripts(self):
        self.no("a:\u0662\u0660", "a:\uff12\uff10", "a:2\u0660", "a:\u00b2", "a:1\u00b2",
                "a:\u2460", "a:\u0967", "a:\u4e8c", "a:\u00bd")

    def test_other_texts(self):
        self.no("[]", "[('a', 20)]", "('a', 20)", "None", "a:20 -> a:5", "-", "a:b", "a:a")

    def test_not_strings(self):
        self.no(None, True, False, 0, 5, -1, [], ["a:20"], [("a", 20)], (), ("a:20",), ("a", 20),
                [[]], [[[[[["a:20"]]]]]], (((((("a:20",),),),),),), [None, ("a:20", True)])

    def test_each_text_of_three_signs(self):
        signs = "abfgA:0129 "
        for first in signs:
            for second in signs:
                for third in signs:
                    self.compare(first + second + third)
                    self.compare("a:" + first + second + third)

    def compare(self, text):
        """Compare with the pattern, and return whether the text is a format."""
        if PATTERN.fullmatch(text):
            self.assertEqual(format_bids(parse_bids(text)), text)
            return True
        self.no(text)
        return False

    def test_random_changes(self):
        source = random.Random(7)
        signs = "abcdefgA::0123456789   \n-+\u0662"
        numbers = {True: 0, False: 0}
        for number, (_, bids) in enumerate(large_cases()):
            if number == 5000:
                break
            text = format_bids(bids)
            for _ in range(source.randint(1, 2)):
                place = source.randint(0, len(text))
                many = source.randint(0, 1)
                new = source.choice(["", source.choice(signs)])
                text = text[:place] + new + text[place + many:]
            numbers[self.compare(text)] += 1
        self.assertGreater(min(numbers.values()), 500)


class WrongBids(unittest.TestCase):
    def test_format_bids(self):
        nine = [("a", 20)] * 9
        wrongs = NOT_BID_LISTS + NOT_INTEGERS[:7] + [nine, "a:20", ["a:20"]] + list(spoiled(BIDS))
        for wrong in wrongs:
            with self.subTest(wrong):
                self.assertRaises(InvalidBids, format_bids, wrong)

    def test_journal(self):
        for wrong in NOT_SALES:
            for bids in ([], BIDS, None, ["a:20"]):
                self.assertRaises(InvalidSale, journal, wrong, bids)
        for wrong in NOT_BID_LISTS + [[("a", 20)] * 9] + list(spoiled(BIDS)):
            self.assertRaises(InvalidBids, journal, LAMP, wrong)


class Journal(unittest.TestCase):
    def check(self, bids, lines, sale=LAMP):
        with self.subTest(sale=sale, bids=bids):
            self.assertEqual(journal(sale, bids), lines)

    def test_no_bids(self):
        self.check([], [])

    def test_no_leader_yet(self):
        self.check([("a", 4), ("b", 1), ("b", 5)],
                   ["a:4 -> - refused", "b:1 -> - refused", "b:5 -> b:5"])

    def test_refused_with_a_leader(self):
        self.check([("a", 20), ("b", 15), ("c", 18), ("a", 20)],
                   ["a:20 -> a:5", "b:15 -> a:17", "c:18 -> a:17 refused", "a:20 -> a:17 refused"])

    def test_another_leader(self):
        self.check([("a", 20), ("b", 30), ("b", 40)],
                   ["a:20 -> a:5", "b:30 -> b:22", "b:40 -> b:22"])

    def test_reserve(self):
        self.check([("a", 20), ("a", 200)], ["a:20 -> a:5", "a:200 -> a:30"], (STEPS, 5, 30))

    def test_eight_bids(self):
        bids = [("a", 3), ("b", 30), ("c", 10), ("d", 40), ("b", 33), ("b", 50), ("e", 50),
                ("d", 9)]
        self.check(bids, ["a:3 -> - refused", "b:30 -> b:5", "c:10 -> b:12", "d:40 -> d:32",
                          "b:33 -> d:32 refused", "b:50 -> b:42", "e:50 -> b:50",
                          "d:9 -> b:50 refused"])

    def test_new_list(self):
        bids = list(BIDS)
        first = journal(LAMP, bids)
        first.clear()
        self.assertEqual(journal(LAMP, bids), ["a:20 -> a:5", "b:15 -> a:17"])
        self.assertEqual(bids, BIDS)

    def test_as_the_text_says(self):
        numbers = {"no leader": 0, "refused": 0, "taken": 0}
        cases = list(small_cases())[::7] + list(large_cases())[::2]
        for sale, bids in cases:
            model = Model(sale, bids)
            lines = []
            for index, (bidder, amount) in enumerate(bids):
                leader, price, _ = model.states[index]
                line = bidder + ":" + str(amount) + " -> "
                line += leader + ":" + str(price) if leader else "-"
                is_refused = index in model.refused
                lines.append(line + " refused" * is_refused)
                numbers["no leader"] += not leader
                numbers["refused" if is_refused else "taken"] += 1
            self.assertEqual(journal(sale, bids), lines, (sale, bids))
        self.assertGreater(min(numbers.values()), 1000)


if __name__ == "__main__":
    unittest.main()
