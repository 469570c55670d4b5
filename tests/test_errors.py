"""[0.3]: the errors and where they stand."""

import unittest

from proxybids import errors

NAMES = [
    "InvalidSale", "InvalidPrice", "InvalidBids", "Repeated", "InvalidBidder", "InvalidBid",
    "InvalidIndex", "InvalidNumber", "InvalidTimed", "InvalidTime", "TooLarge",
    "NothingToUndo", "ParseError",
]


class Errors(unittest.TestCase):
    def test_base(self):
        self.assertEqual(errors.BidError.__bases__, (ValueError,))
        self.assertEqual(errors.BidError.__module__, "proxybids.errors")

    def test_each_is_a_direct_subclass(self):
        for name in NAMES:
            with self.subTest(name):
                error = getattr(errors, name)
                self.assertEqual(error.__bases__, (errors.BidError,))
                self.assertEqual(error.__name__, name)
                self.assertEqual(error.__module__, "proxybids.errors")

    def test_no_two_are_the_same(self):
        self.assertEqual(len({getattr(errors, name) for name in NAMES}), 13)

    def test_each_can_be_raised_and_caught(self):
        for name in NAMES:
            with self.subTest(name), self.assertRaises(errors.BidError):
                raise getattr(errors, name)("why")


if __name__ == "__main__":
    unittest.main()
