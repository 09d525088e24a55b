"""Points 2, 3 and the lots of 10 and 11: lotbook.lots."""

import copy
import unittest
from itertools import product

from lotbook.errors import TooFew, Uneven
from lotbook.lots import cost_of, many_of, narrowed, used, widened

BIG = 10 ** 30 - 1
THREE = [(1, 10, 100), (4, 5, 7), (4, 3, 0)]


class ManyAndCost(unittest.TestCase):
    def test_of_no_lots(self):
        self.assertEqual(many_of([]), 0)
        self.assertEqual(cost_of([]), 0)

    def test_of_one_lot(self):
        self.assertEqual(many_of([(3, 4, 9)]), 4)
        self.assertEqual(cost_of([(3, 4, 9)]), 9)

    def test_of_several(self):
        self.assertEqual(many_of(THREE), 18)
        self.assertEqual(cost_of(THREE), 107)

    def test_lots_for_nothing(self):
        self.assertEqual(many_of([(0, 1, 0), (0, 1, 0)]), 2)
        self.assertEqual(cost_of([(0, 1, 0), (0, 1, 0)]), 0)

    def test_thirty_figures_and_more(self):
        lots = [(BIG, BIG, BIG - 1), (BIG, BIG - 2, BIG), (BIG, 1, 3)]
        self.assertEqual(many_of(lots), 1999999999999999999999999999997)
        self.assertEqual(cost_of(lots), 2000000000000000000000000000000)


class Used(unittest.TestCase):
    def test_nothing_taken(self):
        self.assertEqual(used(THREE, 0), ([], THREE))

    def test_nothing_taken_of_no_lots(self):
        self.assertEqual(used([], 0), ([], []))

    def test_all_taken(self):
        self.assertEqual(used(THREE, 18), (THREE, []))

    def test_just_the_first_lot(self):
        self.assertEqual(used(THREE, 10), ([(1, 10, 100)], [(4, 5, 7), (4, 3, 0)]))

    def test_just_the_first_two_lots(self):
        self.assertEqual(used(THREE, 15), ([(1, 10, 100), (4, 5, 7)], [(4, 3, 0)]))

    def test_a_part_of_the_first_lot(self):
        self.assertEqual(used(THREE, 3), ([(1, 3, 30)], [(1, 7, 70), (4, 5, 7), (4, 3, 0)]))

    def test_a_part_of_a_later_lot(self):
        # 7 * 2 / 5 is 2.8.
        self.assertEqual(used(THREE, 12), ([(1, 10, 100), (4, 2, 2)], [(4, 3, 5), (4, 3, 0)]))

    def test_a_part_of_the_last_lot(self):
        self.assertEqual(used(THREE, 17), ([(1, 10, 100), (4, 5, 7), (4, 2, 0)], [(4, 1, 0)]))

    def test_all_but_one(self):
        self.assertEqual(used([(2, 8, 31)], 7), ([(2, 7, 27)], [(2, 1, 4)]))

    def test_a_part_of_the_cost_is_rounded_down_and_the_rest_stays(self):
        self.assertEqual(used([(0, 3, 2)], 1), ([(0, 1, 0)], [(0, 2, 2)]))
        self.assertEqual(used([(0, 3, 2)], 2), ([(0, 2, 1)], [(0, 1, 1)]))
        self.assertEqual(used([(0, 3, 5)], 1), ([(0, 1, 1)], [(0, 2, 4)]))
        self.assertEqual(used([(0, 1000, 999)], 1), ([(0, 1, 0)], [(0, 999, 999)]))
        self.assertEqual(used([(0, 1000, 999)], 999), ([(0, 999, 998)], [(0, 1, 1)]))

    def test_lots_of_one_share(self):
        lots = [(5, 1, 4), (2, 1, 0), (9, 1, 6)]
        self.assertEqual(used(lots, 1), (lots[:1], lots[1:]))
        self.assertEqual(used(lots, 2), (lots[:2], lots[2:]))
        self.assertEqual(used(lots, 3), (lots, []))

    def test_the_order_is_that_of_the_list_and_not_of_the_days(self):
        self.assertEqual(used([(9, 2, 4), (1, 2, 8)], 3), ([(9, 2, 4), (1, 1, 4)], [(1, 1, 4)]))

    def test_lots_that_are_alike_stay_apart(self):
        self.assertEqual(used([(1, 2, 3)] * 3, 3), ([(1, 2, 3), (1, 1, 1)], [(1, 1, 2), (1, 2, 3)]))

    def test_each_small_case_keeps_to_the_words(self):
        lots_of_one = [(0, count, cost) for count in (1, 2, 3) for cost in (0, 1, 5)]
        for lots in product(lots_of_one, repeat=2):
            for count in range(many_of(lots) + 1):
                self.check_used(list(lots), count)

    def check_used(self, lots, count):
        gone, left = used(lots, count)
        self.assertEqual(many_of(gone), count)
        self.assertEqual(many_of(left), many_of(lots) - count)
        self.assertEqual(cost_of(gone) + cost_of(left), cost_of(lots))
        self.assertTrue(all(lot[1] > 0 and lot[2] >= 0 for lot in gone + left))
        if len(gone) + len(left) == len(lots):
            self.assertEqual(gone + left, lots)
            return
        # One lot is cut: the parts stand side by side where it stood.
        at = len(gone) - 1
        day, many, cost = lots[at]
        self.assertEqual(gone[:-1] + [lots[at]] + left[1:], lots)
        part = gone[-1][1]
        self.assertEqual((gone[-1][0], left[0]), (day, (day, many - part, cost - gone[-1][2])))
        self.assertLessEqual(gone[-1][2] * many, cost * part)
        self.assertGreater((gone[-1][2] + 1) * many, cost * part)

    def test_thirty_figures(self):
        lots = [(BIG, BIG, BIG - 1), (BIG, BIG, 7)]
        self.assertEqual(
            used(lots, 1),
            ([(BIG, 1, 0)], [(BIG, BIG - 1, BIG - 1), (BIG, BIG, 7)]),
        )
        self.assertEqual(
            used(lots, BIG + 1),
            ([(BIG, BIG, BIG - 1), (BIG, 1, 0)], [(BIG, BIG - 1, 7)]),
        )
        # (10**30 - 2) * (10**30 - 2) / (10**30 - 1) is a little above 10**30 - 3.
        self.assertEqual(
            used([(0, BIG, BIG - 1)], BIG - 1),
            ([(0, BIG - 1, BIG - 2)], [(0, 1, 1)]),
        )
        self.check_used([(0, BIG, 123456789012345678901234567891)], 987654321098765432109876543211)

    def test_more_than_thirty_figures(self):
        many = BIG * BIG
        self.assertEqual(used([(0, many, many)], many - 1), ([(0, many - 1, many - 1)], [(0, 1, 1)]))
        with self.assertRaises(TooFew):
            used([(0, many, many)], many + 1)

    def test_more_than_there_are_is_refused(self):
        for count in (19, 20, BIG):
            with self.subTest(count), self.assertRaises(TooFew):
                used(THREE, count)
        with self.assertRaises(TooFew):
            used([(0, 1, 0)], 2)

    def test_more_than_none_is_refused(self):
        for count in (1, 2, BIG):
            with self.subTest(count), self.assertRaises(TooFew):
                used([], count)

    def test_it_is_a_tuple_of_two_lists_of_tuples(self):
        told = used(THREE, 12)
        self.assertIs(type(told), tuple)
        self.assertEqual([type(lots) for lots in told], [list, list])
        self.assertTrue(all(type(lot) is tuple for lots in told for lot in lots))


class Widened(unittest.TestCase):
    def test_no_lots(self):
        self.assertEqual(widened([], 3), [])

    def test_counts_alone_grow(self):
        self.assertEqual(widened(THREE, 3), [(1, 30, 100), (4, 15, 7), (4, 9, 0)])

    def test_by_one(self):
        self.assertEqual(widened(THREE, 1), THREE)
        self.assertIsNot(widened(THREE, 1), THREE)

    def test_thirty_figures(self):
        self.assertEqual(widened([(BIG, BIG, BIG)], BIG), [(BIG, BIG * BIG, BIG)])


class Narrowed(unittest.TestCase):
    def test_no_lots(self):
        self.assertEqual(narrowed([], 3), [])

    def test_counts_alone_shrink(self):
        self.assertEqual(narrowed([(1, 30, 100), (4, 15, 7), (4, 3, 0)], 3), [(1, 10, 100), (4, 5, 7), (4, 1, 0)])

    def test_by_one(self):
        self.assertEqual(narrowed(THREE, 1), THREE)
        self.assertIsNot(narrowed(THREE, 1), THREE)

    def test_it_takes_back_what_widened_did(self):
        for number in (1, 2, 7, BIG):
            with self.subTest(number):
                self.assertEqual(narrowed(widened(THREE, number), number), THREE)

    def test_a_count_that_does_not_come_out_whole_is_refused_wherever_it_stands(self):
        for lots in (
            [(0, 3, 4)],
            [(0, 1, 4)],
            [(0, 3, 4), (0, 2, 4), (0, 4, 4)],
            [(0, 2, 4), (0, 3, 4), (0, 4, 4)],
            [(0, 2, 4), (0, 4, 4), (0, 3, 4)],
            [(0, 1, 4), (0, 1, 4)],
        ):
            with self.subTest(lots), self.assertRaises(Uneven):
                narrowed(lots, 2)

    def test_fewer_shares_than_the_number_are_refused(self):
        with self.assertRaises(Uneven):
            narrowed([(0, 5, 10)], 10)

    def test_a_cost_need_not_come_out_whole(self):
        self.assertEqual(narrowed([(1, 4, 3)], 2), [(1, 2, 3)])

    def test_thirty_figures(self):
        self.assertEqual(narrowed([(BIG, BIG * BIG, BIG)], BIG), [(BIG, BIG, BIG)])
        self.assertEqual(narrowed([(0, BIG, 1)], BIG), [(0, 1, 1)])
        with self.assertRaises(Uneven):
            narrowed([(0, BIG * BIG + 1, 1)], BIG)
        with self.assertRaises(Uneven):
            narrowed([(0, BIG - 1, 1)], BIG)


class WhatIsHandedIn(unittest.TestCase):
    def test_the_lots_stay_as_they_were(self):
        for call in (
            lambda lots: many_of(lots),
            lambda lots: cost_of(lots),
            lambda lots: used(lots, 0),
            lambda lots: used(lots, 12),
            lambda lots: used(lots, 18),
            lambda lots: widened(lots, 2),
            lambda lots: narrowed(lots, 1),
        ):
            lots = copy.deepcopy(THREE)
            call(lots)
            self.assertEqual(lots, THREE)

    def test_the_lots_stay_as_they_were_behind_a_refusal(self):
        lots = copy.deepcopy(THREE)
        with self.assertRaises(TooFew):
            used(lots, 19)
        with self.assertRaises(Uneven):
            narrowed(lots, 5)
        self.assertEqual(lots, THREE)

    def test_what_comes_back_are_lists_of_their_own(self):
        lots = copy.deepcopy(THREE)
        for told in (*used(lots, 0), *used(lots, 12), *used(lots, 18), widened(lots, 1), narrowed(lots, 1)):
            told.append("more")
            told.insert(0, "less")
        self.assertEqual(lots, THREE)

    def test_the_arguments_have_their_names(self):
        self.assertEqual(many_of(lots=THREE), 18)
        self.assertEqual(cost_of(lots=THREE), 107)
        self.assertEqual(used(lots=THREE, count=18), (THREE, []))
        self.assertEqual(widened(lots=[(1, 2, 3)], number=2), [(1, 4, 3)])
        self.assertEqual(narrowed(lots=[(1, 2, 3)], number=2), [(1, 1, 3)])


if __name__ == "__main__":
    unittest.main()
