"""Points 10 to 13: splitting, joining, share-days and paying."""

import unittest

from bookstate import all_of, book_of
from lotbook.books import Book
from lotbook.errors import NoDays, Uneven

BIG = 10 ** 30 - 1


def days_of_all(book):
    return [book.days_of(who) for who in book.names()]


class ShareDays(unittest.TestCase):
    def test_a_new_lot_begins_at_nought(self):
        book = book_of([("issue", 7, "ann", 10, 0)])
        self.assertEqual(book.days_of("ann"), 0)

    def test_they_grow_over_days_without_a_deed(self):
        book = book_of([("issue", 7, "ann", 10, 0), ("issue", 8, "bob", 1, 0)])
        self.assertEqual(days_of_all(book), [10, 0])
        book.issue(20, "bob", 1, 0)
        self.assertEqual(days_of_all(book), [130, 12])

    def test_deeds_on_one_day_add_none(self):
        book = book_of([("issue", 0, "ann", 10, 0), ("issue", 3, "ann", 5, 0)])
        self.assertEqual(book.days_of("ann"), 30)
        book.issue(3, "ann", 100, 0)
        book.sell(3, "ann", "bob", 50, 0)
        book.sell(3, "bob", "ann", 50, 0)
        book.retire(3, "ann", 1, 0)
        self.assertEqual(days_of_all(book), [30, 0])
        book.issue(4, "ann", 1, 0)
        self.assertEqual(days_of_all(book), [144, 0])

    def test_they_are_counted_up_to_the_last_deed_whoever_did_it(self):
        book = book_of([("issue", 0, "ann", 10, 0), ("issue", 0, "bob", 2, 0)])
        for day, deed in enumerate([
            lambda day: book.issue(day, "cat", 1, 0),
            lambda day: book.sell(day, "bob", "cat", 1, 0),
            lambda day: book.retire(day, "cat", 1, 0),
            lambda day: book.issue(day, "ann", 10, 0),
        ], 1):
            deed(day)
            self.assertEqual(book.days_of("ann"), 10 * day)
        book.issue(5, "dan", 1, 0)
        self.assertEqual(book.days_of("ann"), 60)

    def test_shares_that_went_leave_their_share_days(self):
        book = book_of([("issue", 0, "ann", 10, 0), ("sell", 4, "ann", "bob", 10, 0)])
        self.assertEqual(days_of_all(book), [40, 0])
        book.issue(6, "cat", 1, 0)
        self.assertEqual(days_of_all(book), [40, 20, 0])
        book.retire(7, "bob", 4, 0)
        self.assertEqual(days_of_all(book), [40, 30, 1])
        book.issue(9, "cat", 1, 0)
        self.assertEqual(days_of_all(book), [40, 42, 3])

    def test_one_who_gets_shares_again_goes_on_from_there(self):
        book = book_of([
            ("issue", 0, "ann", 3, 0),
            ("retire", 2, "ann", 3, 0),
            ("issue", 10, "ann", 2, 0),
            ("issue", 11, "bob", 1, 0),
        ])
        self.assertEqual(days_of_all(book), [8, 0])

    def test_shares_of_all_lots_count(self):
        book = book_of([
            ("issue", 0, "ann", 1, 0),
            ("issue", 1, "ann", 1, 0),
            ("issue", 2, "ann", 1, 0),
            ("issue", 3, "ann", 1, 0),
        ])
        self.assertEqual(book.days_of("ann"), 6)

    def test_a_refused_deed_on_a_later_day_counts_nothing(self):
        book = book_of([("issue", 0, "ann", 3, 0), ("issue", 1, "bob", 1, 0)])
        for refused in (
            lambda: book.issue(9, "ann", 0, 0),
            lambda: book.sell(9, "bob", "ann", 2, 0),
            lambda: book.retire(9, "ann", 4, 0),
            lambda: book.split_by(9, 1),
            lambda: book.join_by(9, 3),
            lambda: book.pay(9, -1),
        ):
            with self.assertRaises(ValueError):
                refused()
            self.assertEqual(days_of_all(book), [3, 0])
        book.issue(2, "bob", 1, 0)
        self.assertEqual(days_of_all(book), [6, 1])

    def test_a_long_way_from_day_nought(self):
        book = book_of([("split", 50, 2), ("issue", 50, "ann", 3, 0), ("split", 52, 2)])
        self.assertEqual(book.days_of("ann"), 12)

    def test_more_than_thirty_figures(self):
        book = book_of([("issue", 0, "ann", BIG, 0), ("issue", BIG, "ann", BIG, 0)])
        self.assertEqual(book.days_of("ann"), BIG * BIG)
        book.issue(2 * BIG, "ann", 1, 0)
        self.assertEqual(book.days_of("ann"), 3 * BIG * BIG)
        book.issue(2 * BIG + 1, "ann", 1, 0)
        self.assertEqual(book.days_of("ann"), 3 * BIG * BIG + 2 * BIG + 1)


class Split(unittest.TestCase):
    def setUp(self):
        self.book = book_of([
            ("issue", 1, "ann", 10, 100),
            ("issue", 4, "ann", 5, 7),
            ("sell", 5, "ann", "bob", 3, 50),
        ])

    def test_counts_alone_grow_and_days_and_costs_stay(self):
        self.assertIsNone(self.book.split_by(6, 3))
        self.assertEqual(self.book.lots_of("ann"), [(1, 21, 70), (4, 15, 7)])
        self.assertEqual(self.book.lots_of("bob"), [(5, 9, 50)])
        self.assertEqual(self.book.shares(), 45)
        self.assertEqual([self.book.gain_of("ann"), self.book.gain_of("bob")], [20, 0])
        self.assertEqual(self.book.names(), ["ann", "bob"])

    def test_share_days_are_counted_up_to_the_day_ahead_of_it(self):
        # Up to day 5 these are 30 + 15, up to day 8 another 36 and 9.
        self.assertEqual(days_of_all(self.book), [45, 0])
        self.book.split_by(8, 3)
        self.assertEqual(days_of_all(self.book), [243, 27])

    def test_share_days_behind_a_split_come_of_the_new_counts(self):
        self.book.split_by(5, 3)
        self.assertEqual(days_of_all(self.book), [135, 0])
        self.book.issue(7, "cat", 1, 0)
        self.assertEqual(days_of_all(self.book), [207, 18, 0])

    def test_several_on_one_day(self):
        self.book.split_by(6, 2)
        self.book.split_by(6, 5)
        self.assertEqual(self.book.lots_of("bob"), [(5, 30, 50)])
        self.assertEqual(days_of_all(self.book), [570, 30])

    def test_one_who_has_no_shares_any_more_has_more_share_days_too(self):
        self.book.retire(6, "bob", 3, 0)
        self.book.split_by(7, 4)
        self.assertEqual((self.book.lots_of("bob"), self.book.days_of("bob")), ([], 12))

    def test_behind_a_split_shares_go_as_many_times(self):
        self.book.split_by(6, 3)
        self.assertEqual(self.book.sell(7, "ann", "bob", 22, 22), [(1, 21, 70, 21), (4, 1, 0, 1)])
        self.assertEqual(self.book.lots_of("ann"), [(4, 14, 7)])

    def test_more_than_thirty_figures(self):
        book = book_of([("issue", 0, "ann", BIG, BIG), ("split", BIG, BIG), ("split", BIG, BIG)])
        self.assertEqual(book.lots_of("ann"), [(0, BIG ** 3, BIG)])
        self.assertEqual(book.days_of("ann"), BIG ** 4)
        self.assertEqual(book.shares(), BIG ** 3)


class Join(unittest.TestCase):
    def test_counts_alone_shrink_and_days_and_costs_stay(self):
        book = book_of([("issue", 1, "ann", 10, 101), ("issue", 1, "ann", 4, 7), ("issue", 1, "bob", 2, 1)])
        self.assertIsNone(book.join_by(1, 2))
        self.assertEqual(book.lots_of("ann"), [(1, 5, 101), (1, 2, 7)])
        self.assertEqual(book.lots_of("bob"), [(1, 1, 1)])
        self.assertEqual(book.shares(), 8)
        self.assertEqual([book.gain_of("ann"), book.gain_of("bob")], [0, 0])

    def test_share_days_are_counted_up_to_the_day_ahead_of_it(self):
        book = book_of([("issue", 1, "ann", 9, 0), ("issue", 2, "bob", 3, 0)])
        book.join_by(6, 3)
        self.assertEqual(days_of_all(book), [15, 4])
        book.issue(8, "cat", 1, 0)
        self.assertEqual(days_of_all(book), [21, 6, 0])

    def test_it_takes_back_what_a_split_did(self):
        book = book_of([("issue", 1, "ann", 10, 100), ("sell", 5, "ann", "bob", 3, 50)])
        before = all_of(book)
        book.split_by(5, 7)
        book.join_by(5, 7)
        self.assertEqual(all_of(book), before)

    def test_a_count_that_does_not_come_out_whole_refuses_all(self):
        for counts in ([5, 4, 6], [4, 5, 6], [4, 6, 5], [1, 1, 1]):
            for same in (True, False):
                book = Book()
                for at, count in enumerate(counts):
                    book.issue(0, "ann" if same else f"holder {at}", count, 9)
                before = all_of(book)
                with self.subTest(counts, same=same):
                    with self.assertRaises(Uneven):
                        book.join_by(0, 2)
                    with self.assertRaises(Uneven):
                        book.join_by(2, 2)
                    self.assertEqual(all_of(book), before)

    def test_share_days_that_do_not_come_out_whole_refuse_all(self):
        for odd in (0, 1, 2):
            book = Book()
            names = ["ann", "bob", "cat"]
            for at, who in enumerate(names):
                book.issue(0, who, 3 if at == odd else 4, 9)
            for at, who in enumerate(names):
                book.issue(1, who, 1 if at == odd else 2, 9)
            # The odd one's lots are of 3 and 1: make one lot of 4, so that only the share-days are odd.
            book.sell(1, names[odd], "dan", 4, 0)
            book.sell(1, "dan", names[odd], 4, 0)
            self.assertEqual([book.days_of(who) % 2 for who in names], [int(at == odd) for at in range(3)])
            before = all_of(book)
            with self.subTest(names[odd]):
                with self.assertRaises(Uneven):
                    book.join_by(1, 2)
                with self.assertRaises(Uneven):
                    book.join_by(3, 2)
                self.assertEqual(all_of(book), before)

    def test_share_days_of_one_without_shares_count_too(self):
        book = book_of([
            ("issue", 0, "ann", 4, 0),
            ("issue", 0, "bob", 3, 0),
            ("retire", 1, "bob", 3, 0),
        ])
        before = all_of(book)
        with self.assertRaises(Uneven):
            book.join_by(1, 2)
        self.assertEqual(all_of(book), before)
        book.pay(2, 7)
        book.join_by(2, 2)
        self.assertEqual(book.lots_of("ann"), [(0, 2, 0)])

    def test_a_whole_count_that_is_fewer_than_the_number_is_uneven(self):
        book = book_of([("issue", 0, "ann", 3, 9)])
        with self.assertRaises(Uneven):
            book.join_by(0, 4)
        book.join_by(0, 3)
        self.assertEqual(book.lots_of("ann"), [(0, 1, 9)])

    def test_the_shares_of_a_holder_together_are_not_enough(self):
        book = book_of([("issue", 0, "ann", 3, 9), ("issue", 0, "ann", 1, 9)])
        with self.assertRaises(Uneven):
            book.join_by(0, 2)

    def test_thirty_figures(self):
        book = book_of([("issue", 0, "ann", BIG, BIG)])
        with self.assertRaises(Uneven):
            book.join_by(1, BIG - 1)
        book.join_by(1, BIG)
        self.assertEqual((book.lots_of("ann"), book.days_of("ann")), ([(0, 1, BIG)], 1))
        book = book_of([("issue", 0, "ann", BIG, 1), ("split", BIG, BIG), ("join", BIG, BIG)])
        self.assertEqual((book.lots_of("ann"), book.days_of("ann")), ([(0, BIG, 1)], BIG * BIG))


class Pay(unittest.TestCase):
    def test_parts_in_the_holders_order(self):
        book = book_of([("issue", 0, "zoe", 1, 0), ("issue", 0, "abe", 2, 0), ("issue", 0, "mid", 4, 0)])
        # 10 * 3 / 21, 10 * 9 / 21: 1, 4, 10.
        self.assertEqual(book.pay(3, 10), [("zoe", 1), ("abe", 3), ("mid", 6)])
        self.assertEqual([book.got_of("zoe"), book.got_of("abe"), book.got_of("mid")], [1, 3, 6])

    def test_the_weights_are_share_days_and_not_shares(self):
        book = book_of([("issue", 0, "ann", 1, 0), ("issue", 9, "bob", 10, 0)])
        self.assertEqual(book.pay(10, 20), [("ann", 10), ("bob", 10)])

    def test_share_days_up_to_this_day_count(self):
        book = book_of([("issue", 0, "ann", 2, 0), ("issue", 5, "bob", 3, 0)])
        self.assertEqual(days_of_all(book), [10, 0])
        self.assertEqual(book.pay(10, 35), [("ann", 20), ("bob", 15)])

    def test_one_for_each_holder_also_without_share_days(self):
        book = book_of([
            ("issue", 0, "ann", 2, 0),
            ("sell", 0, "ann", "bob", 2, 0),
            ("issue", 4, "cat", 9, 0),
            ("retire", 4, "cat", 9, 0),
            ("issue", 6, "dan", 1, 0),
        ])
        self.assertEqual(book.pay(6, 7), [("ann", 0), ("bob", 7), ("cat", 0), ("dan", 0)])

    def test_one_whose_shares_went_is_paid_for_the_days_of_before(self):
        book = book_of([("issue", 0, "ann", 6, 0), ("sell", 2, "ann", "bob", 6, 0)])
        self.assertEqual(book.pay(4, 11), [("ann", 5), ("bob", 6)])
        self.assertEqual(book.pay(5, 11), [("ann", 0), ("bob", 11)])

    def test_all_share_days_begin_anew(self):
        book = book_of([("issue", 0, "ann", 2, 0), ("issue", 0, "bob", 3, 0)])
        book.pay(4, 5)
        self.assertEqual(days_of_all(book), [0, 0])
        book.issue(6, "cat", 1, 0)
        self.assertEqual(days_of_all(book), [4, 6, 0])

    def test_several_pays_add_up(self):
        book = book_of([("issue", 0, "ann", 1, 0), ("issue", 0, "bob", 1, 0)])
        self.assertEqual(book.pay(1, 9), [("ann", 4), ("bob", 5)])
        self.assertEqual(book.pay(2, 9), [("ann", 4), ("bob", 5)])
        book.issue(2, "ann", 1, 0)
        self.assertEqual(book.pay(3, 9), [("ann", 6), ("bob", 3)])
        self.assertEqual([book.got_of("ann"), book.got_of("bob")], [14, 13])

    def test_nothing_but_coins_and_share_days_changes(self):
        book = book_of([("issue", 0, "ann", 4, 7), ("sell", 1, "ann", "bob", 1, 5), ("pay", 3, 10)])
        self.assertEqual(book.lots_of("ann"), [(0, 3, 6)])
        self.assertEqual(book.lots_of("bob"), [(1, 1, 5)])
        self.assertEqual([book.gain_of("ann"), book.gain_of("bob")], [4, 0])
        self.assertEqual((book.names(), book.shares(), book.day), (["ann", "bob"], 4, 3))

    def test_coins_of_nought(self):
        book = book_of([("issue", 0, "ann", 4, 7), ("issue", 0, "bob", 4, 7)])
        self.assertEqual(book.pay(2, 0), [("ann", 0), ("bob", 0)])
        self.assertEqual((days_of_all(book), book.got_of("ann")), ([0, 0], 0))

    def test_without_share_days_it_is_refused(self):
        for deeds in (
            [("issue", 5, "ann", 4, 7), ("issue", 5, "bob", 1, 1)],
            [("issue", 0, "ann", 4, 7), ("pay", 5, 3)],
        ):
            book = book_of(deeds)
            before = all_of(book)
            for coins in (0, 1, BIG):
                with self.subTest(deeds, coins=coins), self.assertRaises(NoDays):
                    book.pay(5, coins)
                self.assertEqual(all_of(book), before)

    def test_on_a_later_day_without_share_days_it_is_refused(self):
        book = book_of([("issue", 5, "ann", 4, 7), ("retire", 5, "ann", 4, 7)])
        before = all_of(book)
        for coins in (0, 1, BIG):
            with self.subTest(coins), self.assertRaises(NoDays):
                book.pay(9, coins)
            self.assertEqual(all_of(book), before)

    def test_a_book_without_holders(self):
        book = Book()
        for day in (0, 3):
            for coins in (0, 1, BIG):
                with self.subTest(day=day, coins=coins), self.assertRaises(NoDays):
                    book.pay(day, coins)
                self.assertEqual(all_of(book), all_of(Book()))

    def test_it_is_a_list_of_tuples(self):
        told = book_of([("issue", 0, "ann", 4, 7)]).pay(1, 5)
        self.assertIs(type(told), list)
        self.assertEqual([type(pair) for pair in told], [tuple])

    def test_behind_a_split_and_a_join(self):
        deeds = [("issue", 0, "ann", 2, 0), ("issue", 1, "bob", 4, 0)]
        plain = book_of(deeds)
        split = book_of([*deeds, ("split", 2, 3)])
        self.assertEqual(plain.pay(3, 1000), split.pay(3, 1000))
        joined = book_of([*deeds, ("join", 2, 2)])
        self.assertEqual(joined.pay(3, 1000), [("ann", 428), ("bob", 572)])

    def test_thirty_figures_and_more(self):
        book = book_of([("issue", 0, "ann", BIG, 0), ("issue", 0, "bob", BIG, 0), ("issue", 0, "cat", BIG, 0)])
        self.assertEqual(
            book.pay(BIG, BIG + 1),
            [
                ("ann", 333333333333333333333333333333),
                ("bob", 333333333333333333333333333333),
                ("cat", 333333333333333333333333333334),
            ],
        )
        for day in range(1, 20):
            book.pay(BIG + day, BIG)
        self.assertEqual(sum(book.got_of(who) for who in book.names()), 20 * BIG + 1)


if __name__ == "__main__":
    unittest.main()
