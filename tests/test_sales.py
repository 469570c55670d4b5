"""[0.3] to [0.5] and [1.1] to [1.3]: steps, sales, bids and the prices."""

import itertools
import unittest

from model import following
from proxybids.errors import InvalidPrice, InvalidSale
from proxybids.sales import are_bids, climb, is_sale, next_price
from samples import (LAMP, NOT_BID_LISTS, NOT_BIDDERS, NOT_INTEGERS, NOT_SALES, SMALL_SALES,
                     large_cases)

ONE = ((0, 1),)


class IsSale(unittest.TestCase):
    def yes(self, *candidates):
        for candidate in candidates:
            with self.subTest(candidate):
                self.assertIs(is_sale(candidate), True)

    def no(self, *candidates):
        for candidate in candidates:
            with self.subTest(candidate):
                self.assertIs(is_sale(candidate), False)

    def test_examples(self):
        self.yes(LAMP)
        self.no((((0, 2), (10, 1)), 5, 5))

    def test_number_of_steps(self):
        four = ((0, 1), (10, 2), (20, 3), (30, 4))
        self.yes((ONE, 5, 5), (four[:2], 5, 5), (four[:3], 5, 5), (four, 5, 5))
        self.no(((), 5, 5), (four + ((40, 5),), 5, 5))

    def test_bounds(self):
        self.yes((((0, 1), (1, 2)), 5, 5), (((0, 1), (200, 2)), 5, 5))
        self.no((((0, 1), (201, 2)), 5, 5), (((-1, 1),), 5, 5), (((-1, 1), (0, 2)), 5, 5))
        self.no((((0, 1), (1000, 2)), 5, 5), (((0, 1), (199, 2), (201, 3)), 5, 5))

    def test_first_bound_is_0(self):
        self.no((((1, 1),), 5, 5), (((1, 1), (10, 2)), 5, 5), (((200, 1),), 5, 5))

    def test_step_numbers(self):
        self.yes((((0, 1),), 5, 5), (((0, 50),), 5, 5), (((0, 1), (1, 50)), 5, 5))
        self.no((((0, 0),), 5, 5), (((0, 51),), 5, 5), (((0, -1),), 5, 5))
        self.no((((0, 0), (1, 1)), 5, 5), (((0, 1), (1, 51)), 5, 5))

    def test_bounds_ascend(self):
        self.no((((0, 1), (0, 2)), 5, 5), (((0, 1), (10, 2), (10, 3)), 5, 5))
        self.no((((0, 1), (10, 2), (9, 3)), 5, 5), (((0, 1), (20, 2), (30, 3), (10, 4)), 5, 5))
        self.yes((((0, 1), (9, 2), (10, 3)), 5, 5))

    def test_steps_ascend(self):
        self.no((((0, 1), (10, 1)), 5, 5), (((0, 1), (10, 2), (20, 2)), 5, 5))
        self.no((((0, 1), (10, 3), (20, 2)), 5, 5), (((0, 1), (1, 3), (2, 4), (3, 2)), 5, 5))
        self.yes((((0, 1), (10, 2), (20, 3)), 5, 5))

    def test_start(self):
        self.yes((ONE, 1, 200), (ONE, 1, 1), (ONE, 100, 200), (ONE, 100, 100))
        self.no((ONE, 0, 200), (ONE, 101, 200), (ONE, -1, 200), (ONE, 150, 150))

    def test_reserve(self):
        self.yes((ONE, 5, 5), (ONE, 5, 6), (ONE, 5, 200))
        self.no((ONE, 5, 4), (ONE, 5, 201), (ONE, 5, 0), (ONE, 1, 0), (ONE, 5, -5), (ONE, 5, 1000))

    def test_other_values(self):
        self.no(*NOT_SALES)
        self.no(*NOT_INTEGERS)
        self.no(1, -1, 10 ** 30)

    def test_no_integer_at_any_place(self):
        for wrong in NOT_INTEGERS:
            self.no((ONE, wrong, 5), (ONE, 5, wrong), (wrong, 5, 5), (ONE, wrong, wrong))
            self.no((((wrong, 1),), 5, 5), (((0, wrong),), 5, 5), ((wrong,), 5, 5))
            self.no((((0, 1), (wrong, 2)), 5, 5), (((0, 1), (10, wrong)), 5, 5))
            self.no((((0, 1), wrong), 5, 5), ((wrong, (10, 2)), 5, 5))

    def test_booleans_where_the_number_would_fit(self):
        self.no((((False, 1),), 5, 5), (((0, True),), 5, 5), (ONE, True, 5), (ONE, 1, True))
        self.no((((0, 1), (True, 2)), 5, 5), (((0, True), (10, 2)), 5, 5))

    def test_shapes(self):
        self.no([ONE, 5, 5], ([(0, 1)], 5, 5), (([0, 1],), 5, 5), (((0, 1), [10, 2]), 5, 5))
        self.no((ONE, 5), (ONE, 5, 5, 5), (ONE,), (((0,),), 5, 5), (((0, 1, 1),), 5, 5))
        self.no((((0, 1), (10,)), 5, 5), (((0, 1), (10, 2, 3)), 5, 5), (ONE + ((),), 5, 5))
        self.no(((ONE,), 5, 5), ((ONE, 5, 5),), [(ONE, 5, 5)])

    def test_all_generated_sales(self):
        self.yes(*SMALL_SALES)
        for sale, _ in itertools.islice(large_cases(), 2000):
            self.assertIs(is_sale(sale), True, sale)


class AreBids(unittest.TestCase):
    def yes(self, *candidates):
        for candidate in candidates:
            with self.subTest(candidate):
                self.assertIs(are_bids(candidate), True)

    def no(self, *candidates):
        for candidate in candidates:
            with self.subTest(candidate):
                self.assertIs(are_bids(candidate), False)

    def test_number_of_bids(self):
        self.yes([], [("a", 5)], [("a", 5), ("b", 6)], [("a", 5)] * 7, [("a", 5)] * 8)
        self.no([("a", 5)] * 9, [("a", 5)] * 100)

    def test_amounts(self):
        self.yes([("a", 1)], [("a", 200)], [("a", 100), ("b", 1)])
        self.no([("a", 0)], [("a", 201)], [("a", -1)], [("a", 10 ** 30)], [("a", 5), ("b", 0)])

    def test_bidders(self):
        for letter in "abcdef":
            self.yes([(letter, 5)])
        for wrong in NOT_BIDDERS:
            self.no([(wrong, 5)], [("a", 5), (wrong, 5)])

    def test_no_order_is_asked_for(self):
        self.yes([("f", 200), ("a", 1), ("f", 200), ("c", 1)])

    def test_no_integer_as_amount(self):
        for wrong in NOT_INTEGERS:
            self.no([("a", wrong)], [("a", 5), ("b", wrong)])

    def test_other_values(self):
        self.no(*NOT_BID_LISTS)
        for wrong in NOT_INTEGERS:
            self.no([wrong], [("a", 5), wrong], [wrong, ("a", 5)])
            if wrong != []:
                self.no(wrong)

    def test_shapes(self):
        self.no((), (("a", 5),), ("a", 5), [["a", 5]], [("a",)], [("a", 5, 5)], [()], [[]])
        self.no([("a", 5), ["b", 5]], [("a", 5), ("b",)], [("a", 5), ("b", 5, 5)], [[("a", 5)]])
        self.no(["a5"], [(5, "a")], [(("a", 5),)], "", "a5", [[]] * 8)


class NextPrice(unittest.TestCase):
    def test_example(self):
        self.assertEqual(next_price(LAMP, 10), 12)

    def test_around_the_bounds(self):
        for price, expected in [(0, 1), (1, 2), (8, 9), (9, 10), (11, 13), (48, 50), (49, 51),
                                (50, 55), (51, 56), (199, 204), (200, 205)]:
            self.assertEqual(next_price(LAMP, price), expected)

    def test_bound_200(self):
        sale = (((0, 1), (200, 50)), 5, 5)
        self.assertEqual(next_price(sale, 199), 200)
        self.assertEqual(next_price(sale, 200), 250)

    def test_one_step_and_four(self):
        self.assertEqual([next_price((((0, 50),), 1, 1), price) for price in (0, 1, 200)],
                         [50, 51, 250])
        four = (((0, 1), (2, 3), (4, 7), (6, 20)), 1, 1)
        self.assertEqual([next_price(four, price) for price in range(8)],
                         [1, 2, 5, 6, 11, 12, 26, 27])

    def test_start_and_reserve_do_not_matter(self):
        self.assertEqual(next_price((LAMP[0], 100, 200), 0), 1)

    def test_all_prices_of_many_sales(self):
        sales = SMALL_SALES + [sale for sale, _ in itertools.islice(large_cases(), 200)]
        for sale, price in itertools.product(sales, range(201)):
            self.assertEqual(next_price(sale, price), following(sale[0], price))

    def test_wrong_price(self):
        for wrong in [-1, 201, -10, 10 ** 30] + NOT_INTEGERS:
            with self.subTest(wrong), self.assertRaises(InvalidPrice):
                next_price(LAMP, wrong)

    def test_wrong_sale(self):
        for wrong in NOT_SALES:
            with self.subTest(wrong), self.assertRaises(InvalidSale):
                next_price(wrong, 5)

    def test_sale_comes_first(self):
        for wrong in [-1, 201, None, True, [5]]:
            with self.subTest(wrong), self.assertRaises(InvalidSale):
                next_price(None, wrong)


class Climb(unittest.TestCase):
    def test_example(self):
        self.assertEqual(climb(LAMP, 8, 15), [8, 9, 10, 12, 14])

    def test_most_just_reached_and_just_missed(self):
        self.assertEqual(climb(LAMP, 8, 14), [8, 9, 10, 12, 14])
        self.assertEqual(climb(LAMP, 8, 13), [8, 9, 10, 12])
        self.assertEqual(climb(LAMP, 8, 9), [8, 9])
        self.assertEqual(climb(LAMP, 46, 55), [46, 48, 50, 55])
        self.assertEqual(climb(LAMP, 46, 54), [46, 48, 50])

    def test_price_not_less_than_most(self):
        self.assertEqual(climb(LAMP, 8, 8), [8])
        self.assertEqual(climb(LAMP, 8, 7), [8])
        self.assertEqual(climb(LAMP, 200, 0), [200])
        self.assertEqual(climb(LAMP, 200, 200), [200])
        self.assertEqual(climb(LAMP, 0, 0), [0])

    def test_whole_range(self):
        self.assertEqual(climb((((0, 1),), 1, 1), 0, 200), list(range(201)))
        self.assertEqual(climb((((0, 50),), 1, 1), 0, 200), [0, 50, 100, 150, 200])
        self.assertEqual(climb((((0, 50),), 1, 1), 1, 200), [1, 51, 101, 151])

    def test_rule(self):
        sales = SMALL_SALES + [sale for sale, _ in itertools.islice(large_cases(), 30)]
        for sale, price, most in itertools.product(sales, range(0, 201, 13), range(0, 201, 9)):
            expected = [price]
            while following(sale[0], expected[-1]) <= most:
                expected.append(following(sale[0], expected[-1]))
            self.assertEqual(climb(sale, price, most), expected)

    def test_wrong_price_or_most(self):
        for wrong in [-1, 201, -10, 10 ** 30] + NOT_INTEGERS:
            with self.subTest(wrong):
                with self.assertRaises(InvalidPrice):
                    climb(LAMP, wrong, 15)
                with self.assertRaises(InvalidPrice):
                    climb(LAMP, 8, wrong)
                with self.assertRaises(InvalidPrice):
                    climb(LAMP, wrong, wrong)

    def test_wrong_sale(self):
        for wrong in NOT_SALES:
            with self.subTest(wrong), self.assertRaises(InvalidSale):
                climb(wrong, 8, 15)

    def test_sale_comes_first(self):
        for price, most in [(None, 15), (8, None), (None, None), (-1, 201), (True, False)]:
            with self.subTest((price, most)), self.assertRaises(InvalidSale):
                climb([], price, most)

    def test_price_comes_before_most(self):
        with self.assertRaises(InvalidPrice) as caught:
            climb(LAMP, -1, None)
        self.assertTrue(str(caught.exception).startswith("price "))
        with self.assertRaises(InvalidPrice) as caught:
            climb(LAMP, 8, None)
        self.assertTrue(str(caught.exception).startswith("most "))

    def test_new_list(self):
        first = climb(LAMP, 8, 15)
        first.append("x")
        first[0] = None
        self.assertEqual(climb(LAMP, 8, 15), [8, 9, 10, 12, 14])
        self.assertIsNot(climb(LAMP, 8, 15), climb(LAMP, 8, 15))


if __name__ == "__main__":
    unittest.main()
