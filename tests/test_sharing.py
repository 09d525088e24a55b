"""Point 4: coins shared out by weights."""

import unittest
from itertools import product

from lotbook import sharing
from lotbook.errors import NoDays
from lotbook.sharing import parts

THIRTY_NINES = 999999999999999999999999999999
THIRTY_ONES = 111111111111111111111111111111


class PartsCase(unittest.TestCase):
    def check_parts(self, coins, weights):
        """Hold the parts against the words of point 4, without dividing."""
        told = parts(coins, weights)
        self.assertIs(type(told), list)
        self.assertEqual(len(told), len(weights))
        for part in told:
            self.assertIs(type(part), int)
        whole = sum(weights)
        for many in range(len(weights) + 1):
            exact = coins * sum(weights[:many])
            got = sum(told[:many])
            self.assertLessEqual(got * whole, exact)
            self.assertGreater((got + 1) * whole, exact)
        self.assertEqual(sum(told), coins)


class OrdinaryParts(PartsCase):
    def test_parts_that_come_out_whole(self):
        self.assertEqual(parts(60, [1, 2, 3]), [10, 20, 30])

    def test_what_the_first_ones_get_together_is_rounded_down(self):
        # 10/3, 20/3, 30/3: together 3, 6, 10.
        self.assertEqual(parts(10, [1, 1, 1]), [3, 3, 4])
        # 20/3: neither rounded to the nearest nor up.
        self.assertEqual(parts(20, [1, 1, 1]), [6, 7, 7])

    def test_equal_weights_may_get_unequal_parts_in_the_midst(self):
        # 7 * 1..5 / 5, rounded down: 1, 2, 4, 5, 7.
        self.assertEqual(parts(7, [1, 1, 1, 1, 1]), [1, 1, 2, 1, 2])

    def test_the_order_of_the_weights_counts(self):
        self.assertEqual(parts(10, [1, 2, 4]), [1, 3, 6])
        self.assertEqual(parts(10, [4, 2, 1]), [5, 3, 2])
        self.assertEqual(parts(10, [2, 4, 1]), [2, 6, 2])

    def test_one_weight_gets_all(self):
        for coins in (0, 1, 7, THIRTY_NINES):
            for weight in (1, 2, 13, THIRTY_NINES):
                with self.subTest(coins=coins, weight=weight):
                    self.assertEqual(parts(coins, [weight]), [coins])

    def test_each_small_case_keeps_to_the_words(self):
        for length in range(1, 5):
            for weights in product(range(4), repeat=length):
                if any(weights):
                    for coins in range(9):
                        self.check_parts(coins, list(weights))

    def test_many_weights(self):
        self.check_parts(1000003, [at * at % 17 for at in range(500)])


class Noughts(PartsCase):
    def test_a_weight_of_nought_at_the_beginning(self):
        self.assertEqual(parts(7, [0, 1, 1]), [0, 3, 4])
        self.assertEqual(parts(7, [0, 0, 5]), [0, 0, 7])

    def test_a_weight_of_nought_in_the_midst(self):
        self.assertEqual(parts(7, [1, 0, 1]), [3, 0, 4])
        self.assertEqual(parts(7, [1, 0, 0, 1]), [3, 0, 0, 4])

    def test_a_weight_of_nought_at_the_end_gets_no_rest(self):
        self.assertEqual(parts(7, [1, 1, 0]), [3, 4, 0])
        self.assertEqual(parts(7, [5, 0, 0]), [7, 0, 0])

    def test_weights_of_nought_everywhere_among_others(self):
        self.assertEqual(parts(10, [0, 1, 0, 1, 0, 1, 0]), [0, 3, 0, 3, 0, 4, 0])

    def test_coins_of_nought(self):
        self.assertEqual(parts(0, [3]), [0])
        self.assertEqual(parts(0, [0, 2, 5]), [0, 0, 0])
        self.assertEqual(parts(0, [THIRTY_NINES, 1]), [0, 0])

    def test_fewer_coins_than_weights(self):
        self.assertEqual(parts(1, [1, 1, 1]), [0, 0, 1])
        self.assertEqual(parts(2, [1, 1, 1, 1, 1]), [0, 0, 1, 0, 1])
        self.assertEqual(parts(3, [1, 5, 1, 1]), [0, 2, 0, 1])


class ThirtyFigures(PartsCase):
    def test_coins_and_weights_of_thirty_figures(self):
        self.assertEqual(
            parts(THIRTY_NINES, [THIRTY_ONES, THIRTY_ONES, THIRTY_ONES]),
            [333333333333333333333333333333, 333333333333333333333333333333, 333333333333333333333333333333],
        )
        self.assertEqual(
            parts(100000000000000000000000000000, [THIRTY_NINES, THIRTY_NINES, THIRTY_NINES]),
            [33333333333333333333333333333, 33333333333333333333333333333, 33333333333333333333333333334],
        )

    def test_the_last_figure_of_thirty_tells(self):
        self.assertEqual(
            parts(THIRTY_NINES, [1, 1]),
            [499999999999999999999999999999, 500000000000000000000000000000],
        )
        # A weight that is short of a half by one in the thirtieth figure.
        self.assertEqual(
            parts(2, [499999999999999999999999999999, 500000000000000000000000000001]),
            [0, 2],
        )
        self.assertEqual(
            parts(2, [500000000000000000000000000000, 500000000000000000000000000000]),
            [1, 1],
        )

    def test_nothing_else_is_rounded(self):
        self.check_parts(THIRTY_NINES, [123456789012345678901234567891, 987654321098765432109876543211, 7])
        self.check_parts(123456789012345678901234567891, [THIRTY_NINES, 0, 1, THIRTY_ONES, THIRTY_NINES - 1])
        self.check_parts(5, [THIRTY_NINES, THIRTY_NINES - 2, THIRTY_NINES - 4])
        self.check_parts(THIRTY_NINES, [3, 0, 5, 11])


class RefusedParts(unittest.TestCase):
    def test_no_weights_are_refused(self):
        for coins in (0, 1, 7, THIRTY_NINES):
            with self.subTest(coins=coins), self.assertRaises(NoDays):
                parts(coins, [])

    def test_weights_that_are_all_nought_are_refused(self):
        for coins in (0, 1, 7, THIRTY_NINES):
            for weights in ([0], [0, 0], [0, 0, 0, 0, 0]):
                with self.subTest(coins=coins, weights=weights), self.assertRaises(NoDays):
                    parts(coins, weights)

    def test_one_weight_above_nought_is_enough(self):
        self.assertEqual(parts(4, [0, 0, 1]), [0, 0, 4])
        self.assertEqual(parts(4, [1, 0, 0]), [4, 0, 0])


class WhatIsHandedIn(unittest.TestCase):
    def test_the_weights_stay_as_they_were(self):
        weights = [3, 0, THIRTY_NINES, 3]
        parts(10, weights)
        self.assertEqual(weights, [3, 0, THIRTY_NINES, 3])

    def test_the_weights_stay_as_they_were_behind_a_refusal(self):
        for refused in ([], [0], [0, 0, 0]):
            weights = list(refused)
            with self.subTest(refused), self.assertRaises(NoDays):
                parts(10, weights)
            self.assertEqual(weights, refused)

    def test_the_same_weights_give_the_same_parts_again(self):
        weights = [1, 2, 4]
        self.assertEqual(parts(10, weights), [1, 3, 6])
        self.assertEqual(parts(10, weights), [1, 3, 6])

    def test_what_comes_back_is_a_list_of_its_own(self):
        weights = [1, 2, 4]
        told = parts(7, weights)
        self.assertEqual(told, [1, 2, 4])
        self.assertIsNot(told, weights)
        told[0] = 99
        told.append(5)
        self.assertEqual(weights, [1, 2, 4])
        self.assertEqual(parts(7, weights), [1, 2, 4])

    def test_the_arguments_have_their_names(self):
        self.assertEqual(parts(coins=4, weights=[1, 1]), [2, 2])

    def test_it_is_defined_in_sharing(self):
        self.assertEqual((sharing.parts.__module__, sharing.parts.__name__), ("lotbook.sharing", "parts"))


if __name__ == "__main__":
    unittest.main()
