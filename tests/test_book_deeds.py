"""Points 5 to 9: the book's days and holders, issuing, selling and retiring."""

import unittest

from bookstate import all_of, book_of
from lotbook.books import Book

BIG = 10 ** 30 - 1


class NewBook(unittest.TestCase):
    def test_it_is_of_day_nought_without_holders(self):
        book = Book()
        self.assertEqual(book.day, 0)
        self.assertEqual(book.names(), [])
        self.assertEqual(book.shares(), 0)

    def test_each_book_stands_for_itself(self):
        first = Book()
        second = Book()
        first.issue(3, "ann", 4, 5)
        self.assertEqual(all_of(second), all_of(Book()))
        second.issue(1, "bob", 1, 1)
        self.assertEqual(first.names(), ["ann"])
        self.assertEqual((first.day, second.day), (3, 1))


class Days(unittest.TestCase):
    def test_each_deed_that_is_done_takes_the_book_to_its_day(self):
        book = Book()
        book.issue(2, "ann", 8, 0)
        self.assertEqual(book.day, 2)
        book.sell(5, "ann", "bob", 2, 1)
        self.assertEqual(book.day, 5)
        book.retire(6, "ann", 2, 1)
        self.assertEqual(book.day, 6)
        book.split_by(9, 2)
        self.assertEqual(book.day, 9)
        book.join_by(10, 2)
        self.assertEqual(book.day, 10)
        book.pay(14, 3)
        self.assertEqual(book.day, 14)

    def test_a_deed_on_the_day_of_the_last_one_is_done(self):
        book = Book()
        book.issue(0, "ann", 8, 0)
        self.assertEqual(book.day, 0)
        book.issue(4, "ann", 8, 0)
        book.issue(4, "bob", 8, 0)
        book.sell(4, "ann", "bob", 2, 1)
        book.retire(4, "ann", 2, 1)
        book.split_by(4, 2)
        book.join_by(4, 2)
        book.pay(4, 3)
        self.assertEqual(book.day, 4)
        self.assertEqual([book.shares_of("ann"), book.shares_of("bob")], [12, 10])

    def test_split_and_join_take_a_book_without_holders_to_their_day(self):
        book = Book()
        self.assertIsNone(book.split_by(3, 2))
        self.assertEqual(book.day, 3)
        self.assertIsNone(book.join_by(5, 7))
        self.assertEqual(book.day, 5)
        self.assertEqual(book.names(), [])

    def test_a_day_of_thirty_figures(self):
        book = book_of([("issue", BIG - 1, "ann", 3, 0), ("split", BIG, 2)])
        self.assertEqual(book.day, BIG)
        self.assertEqual(book.days_of("ann"), 6)


class Holders(unittest.TestCase):
    def test_they_stand_in_the_order_in_which_they_first_got_shares(self):
        book = Book()
        for who in ("mid", "zoe", "abe"):
            book.issue(0, who, 2, 0)
        book.issue(1, "zoe", 2, 0)
        book.issue(2, "abe", 2, 0)
        book.issue(2, "mid", 2, 0)
        self.assertEqual(book.names(), ["mid", "zoe", "abe"])

    def test_a_taker_stands_behind_the_others_from_then_on(self):
        book = book_of([("issue", 0, "ann", 9, 9), ("issue", 0, "bob", 9, 9)])
        book.sell(1, "bob", "abe", 1, 1)
        self.assertEqual(book.names(), ["ann", "bob", "abe"])
        book.issue(1, "cat", 1, 1)
        book.sell(1, "ann", "abe", 1, 1)
        self.assertEqual(book.names(), ["ann", "bob", "abe", "cat"])

    def test_one_who_has_none_any_more_keeps_the_place(self):
        book = book_of([("issue", 0, "ann", 3, 9), ("issue", 0, "bob", 3, 9)])
        book.sell(1, "ann", "bob", 3, 9)
        self.assertEqual(book.names(), ["ann", "bob"])
        book.retire(2, "bob", 6, 9)
        self.assertEqual(book.names(), ["ann", "bob"])
        self.assertEqual(book.shares(), 0)
        book.issue(3, "cat", 3, 9)
        book.issue(4, "bob", 1, 1)
        book.sell(4, "cat", "ann", 2, 1)
        self.assertEqual(book.names(), ["ann", "bob", "cat"])

    def test_one_who_is_only_asked_about_does_not_stand_in_the_book(self):
        book = book_of([("issue", 0, "ann", 3, 9)])
        for ask in (book.shares_of, book.gain_of, book.got_of, book.days_of, book.lots_of):
            ask("bob")
        self.assertEqual(book.names(), ["ann"])
        self.assertEqual(book.pay(1, 5), [("ann", 5)])

    def test_names_are_texts_of_which_nothing_is_looked_at(self):
        names = [
            "", " ", "  ", "\n", "a\n", "a", "A", "a ", " a", "\t", "\r\n", "\x00", "issue", "no days",
            "x" * 5000, "x" * 4999 + "y", "e\u0301", "\u00e9", "\U0001f600", "None", "0", "1", "-1",
        ]
        book = Book()
        for at, who in enumerate(names):
            book.issue(at, who, at + 1, at)
        self.assertEqual(book.names(), names)
        for at, who in enumerate(names):
            with self.subTest(who[:20]):
                self.assertEqual(book.lots_of(who), [(at, at + 1, at)])
        for giver, taker in zip(names, names[1:]):
            book.sell(99, giver, taker, 1, 0)
        self.assertEqual(book.names(), names)
        self.assertEqual([book.shares_of(who) for who in names], [0, *range(2, len(names)), len(names) + 1])

    def test_the_empty_text_is_a_holder_as_others_are(self):
        book = book_of([("issue", 1, "", 4, 8)])
        self.assertEqual(book.sell(2, "", "ann", 2, 6), [(1, 2, 4, 6)])
        self.assertEqual(book.sell(3, "ann", "", 1, 1), [(2, 1, 3, 1)])
        self.assertEqual(book.names(), ["", "ann"])
        self.assertEqual(book.lots_of(""), [(1, 2, 4), (3, 1, 1)])

    def test_the_same_text_made_anew_is_the_same_name(self):
        book = book_of([("issue", 0, "anna bell", 4, 8)])
        book.issue(0, " ".join(["anna", "bell"]), 1, 1)
        self.assertEqual(book.names(), ["anna bell"])
        self.assertEqual(book.shares_of("anna" + " bell"), 5)


class Issue(unittest.TestCase):
    def test_a_lot_behind_the_others(self):
        book = Book()
        self.assertIsNone(book.issue(1, "ann", 10, 100))
        self.assertEqual(book.lots_of("ann"), [(1, 10, 100)])
        self.assertIsNone(book.issue(4, "ann", 5, 7))
        self.assertEqual(book.lots_of("ann"), [(1, 10, 100), (4, 5, 7)])
        self.assertEqual(book.shares_of("ann"), 15)
        self.assertEqual(book.shares(), 15)

    def test_lots_of_one_day_stand_one_behind_the_other(self):
        book = book_of([
            ("issue", 2, "ann", 3, 9),
            ("issue", 2, "ann", 3, 9),
            ("issue", 2, "ann", 1, 30),
            ("issue", 2, "ann", 3, 0),
        ])
        self.assertEqual(book.lots_of("ann"), [(2, 3, 9), (2, 3, 9), (2, 1, 30), (2, 3, 0)])

    def test_for_nothing_paid(self):
        book = book_of([("issue", 0, "ann", 1, 0), ("issue", 1, "bob", 6, 0)])
        self.assertEqual(book.lots_of("ann"), [(0, 1, 0)])
        self.assertEqual(book.lots_of("bob"), [(1, 6, 0)])

    def test_nobody_else_is_changed_and_nothing_is_gained(self):
        book = book_of([("issue", 1, "ann", 10, 100), ("issue", 1, "bob", 3, 4)])
        self.assertEqual(book.lots_of("ann"), [(1, 10, 100)])
        self.assertEqual([book.gain_of("ann"), book.gain_of("bob")], [0, 0])
        self.assertEqual([book.got_of("ann"), book.got_of("bob")], [0, 0])

    def test_thirty_figures_and_more(self):
        book = book_of([("issue", BIG, "ann", BIG, BIG), ("issue", BIG, "ann", BIG, BIG)])
        self.assertEqual(book.lots_of("ann"), [(BIG, BIG, BIG), (BIG, BIG, BIG)])
        self.assertEqual(book.shares_of("ann"), 1999999999999999999999999999998)
        self.assertEqual(book.shares(), 1999999999999999999999999999998)


class Sell(unittest.TestCase):
    def setUp(self):
        self.book = book_of([
            ("issue", 1, "ann", 10, 100),
            ("issue", 4, "ann", 5, 7),
            ("issue", 4, "ann", 3, 0),
        ])

    def test_rows_of_one_lot(self):
        self.assertEqual(self.book.sell(6, "ann", "bob", 10, 130), [(1, 10, 100, 130)])
        self.assertEqual(self.book.lots_of("ann"), [(4, 5, 7), (4, 3, 0)])
        self.assertEqual(self.book.lots_of("bob"), [(6, 10, 130)])
        self.assertEqual(self.book.gain_of("ann"), 30)

    def test_rows_of_a_part_of_the_first_lot(self):
        self.assertEqual(self.book.sell(6, "ann", "bob", 3, 50), [(1, 3, 30, 50)])
        self.assertEqual(self.book.lots_of("ann"), [(1, 7, 70), (4, 5, 7), (4, 3, 0)])
        self.assertEqual(self.book.gain_of("ann"), 20)

    def test_rows_of_several_lots(self):
        # 100 * 10 / 18 is 55.5.., 100 * 15 / 18 is 83.3..
        self.assertEqual(
            self.book.sell(6, "ann", "bob", 18, 100),
            [(1, 10, 100, 55), (4, 5, 7, 28), (4, 3, 0, 17)],
        )
        self.assertEqual(self.book.lots_of("ann"), [])
        self.assertEqual(self.book.lots_of("bob"), [(6, 18, 100)])
        self.assertEqual(self.book.gain_of("ann"), -7)

    def test_rows_of_a_part_of_the_last_lot(self):
        # 7 * 2 / 5 is 2.8, and 200 * 10 / 12 is 166.6..
        self.assertEqual(self.book.sell(6, "ann", "bob", 12, 200), [(1, 10, 100, 166), (4, 2, 2, 34)])
        self.assertEqual(self.book.lots_of("ann"), [(4, 3, 5), (4, 3, 0)])
        self.assertEqual(self.book.lots_of("bob"), [(6, 12, 200)])
        self.assertEqual(self.book.gain_of("ann"), 98)

    def test_the_price_is_shared_by_counts_and_not_by_costs_or_evenly(self):
        book = book_of([("issue", 0, "ann", 1, 90), ("issue", 0, "ann", 2, 9), ("issue", 0, "ann", 4, 1)])
        self.assertEqual(book.sell(0, "ann", "bob", 7, 10), [(0, 1, 90, 1), (0, 2, 9, 3), (0, 4, 1, 6)])

    def test_the_count_of_a_part_weighs_and_not_that_of_its_lot(self):
        book = book_of([("issue", 0, "ann", 2, 0), ("issue", 0, "ann", 1000, 0)])
        self.assertEqual(book.sell(0, "ann", "bob", 4, 10), [(0, 2, 0, 5), (0, 2, 0, 5)])

    def test_a_price_of_nought(self):
        self.assertEqual(self.book.sell(6, "ann", "bob", 12, 0), [(1, 10, 100, 0), (4, 2, 2, 0)])
        self.assertEqual(self.book.lots_of("bob"), [(6, 12, 0)])
        self.assertEqual(self.book.gain_of("ann"), -102)

    def test_a_price_below_the_number_of_lots(self):
        self.assertEqual(
            self.book.sell(6, "ann", "bob", 18, 1),
            [(1, 10, 100, 0), (4, 5, 7, 0), (4, 3, 0, 1)],
        )

    def test_the_taker_gets_one_lot_behind_the_others(self):
        self.book.issue(5, "bob", 1, 2)
        self.book.sell(6, "ann", "bob", 12, 200)
        self.book.sell(6, "ann", "bob", 1, 3)
        self.assertEqual(self.book.lots_of("bob"), [(5, 1, 2), (6, 12, 200), (6, 1, 3)])
        self.assertEqual(self.book.gain_of("bob"), 0)

    def test_what_was_taken_is_sold_on_at_the_price_it_was_taken_for(self):
        self.book.sell(6, "ann", "bob", 12, 200)
        self.assertEqual(self.book.sell(8, "bob", "cat", 5, 90), [(6, 5, 83, 90)])
        self.assertEqual(self.book.lots_of("bob"), [(6, 7, 117)])
        self.assertEqual(self.book.gain_of("bob"), 7)

    def test_sold_back_to_the_giver_it_comes_last(self):
        self.book.sell(6, "ann", "bob", 10, 20)
        self.book.sell(7, "bob", "ann", 10, 30)
        self.assertEqual(self.book.lots_of("ann"), [(4, 5, 7), (4, 3, 0), (7, 10, 30)])
        self.assertEqual([self.book.gain_of("ann"), self.book.gain_of("bob")], [-80, 10])

    def test_gains_grow_and_fall_below_nought(self):
        self.book.sell(6, "ann", "bob", 5, 40)
        self.assertEqual(self.book.gain_of("ann"), -10)
        self.book.sell(7, "ann", "bob", 5, 75)
        self.assertEqual(self.book.gain_of("ann"), 15)
        self.book.sell(7, "ann", "bob", 8, 0)
        self.assertEqual(self.book.gain_of("ann"), 8)

    def test_the_shares_of_all_stay(self):
        self.book.sell(6, "ann", "bob", 12, 200)
        self.assertEqual(self.book.shares(), 18)
        self.assertEqual([self.book.shares_of("ann"), self.book.shares_of("bob")], [6, 12])
        self.assertEqual([self.book.got_of("ann"), self.book.got_of("bob")], [0, 0])

    def test_the_rest_of_a_cost_goes_with_the_rest_of_the_lot(self):
        book = book_of([("issue", 0, "ann", 3, 5)])
        rows = [book.sell(day, "ann", "bob", 1, 0) for day in (1, 2, 3)]
        self.assertEqual(rows, [[(0, 1, 1, 0)], [(0, 1, 2, 0)], [(0, 1, 2, 0)]])
        self.assertEqual(book.gain_of("ann"), -5)

    def test_rows_are_a_list_of_tuples(self):
        rows = self.book.sell(6, "ann", "bob", 12, 200)
        self.assertIs(type(rows), list)
        self.assertEqual([type(row) for row in rows], [tuple, tuple])

    def test_thirty_figures_and_more(self):
        book = book_of([("issue", BIG, "ann", BIG, BIG), ("issue", BIG, "ann", BIG, BIG - 1)])
        self.assertEqual(
            book.sell(BIG, "ann", "bob", BIG + 1, BIG),
            [(BIG, BIG, BIG, BIG - 1), (BIG, 1, 0, 1)],
        )
        self.assertEqual(book.lots_of("ann"), [(BIG, BIG - 1, BIG - 1)])
        self.assertEqual(book.gain_of("ann"), 0)
        book.sell(BIG, "ann", "bob", BIG - 1, 0)
        self.assertEqual(book.gain_of("ann"), 1 - BIG)
        self.assertEqual(book.shares_of("bob"), 2 * BIG)

    def test_gains_of_more_than_thirty_figures(self):
        book = Book()
        for _ in range(20):
            book.issue(0, "ann", 1, 0)
            book.sell(0, "ann", "bob", 1, BIG)
        self.assertEqual(book.gain_of("ann"), 20 * BIG)
        for _ in range(20):
            book.sell(0, "bob", "ann", 1, 0)
        self.assertEqual(book.gain_of("bob"), -20 * BIG)


class Retire(unittest.TestCase):
    def setUp(self):
        self.book = book_of([
            ("issue", 1, "ann", 10, 100),
            ("issue", 4, "ann", 5, 7),
            ("issue", 4, "bob", 3, 0),
        ])

    def test_rows_of_one_lot(self):
        self.assertEqual(self.book.retire(6, "ann", 10, 130), [(1, 10, 100, 130)])
        self.assertEqual(self.book.lots_of("ann"), [(4, 5, 7)])
        self.assertEqual(self.book.gain_of("ann"), 30)

    def test_rows_of_several_lots_and_a_part(self):
        self.assertEqual(self.book.retire(6, "ann", 12, 200), [(1, 10, 100, 166), (4, 2, 2, 34)])
        self.assertEqual(self.book.lots_of("ann"), [(4, 3, 5)])
        self.assertEqual(self.book.gain_of("ann"), 98)

    def test_all_of_one(self):
        self.assertEqual(self.book.retire(6, "ann", 15, 10), [(1, 10, 100, 6), (4, 5, 7, 4)])
        self.assertEqual(self.book.lots_of("ann"), [])
        self.assertEqual(self.book.gain_of("ann"), -97)

    def test_the_shares_are_gone_from_all(self):
        self.book.retire(6, "ann", 12, 200)
        self.assertEqual(self.book.shares(), 6)
        self.assertEqual(self.book.shares_of("ann"), 3)
        self.assertEqual(self.book.lots_of("bob"), [(4, 3, 0)])
        self.assertEqual(self.book.gain_of("bob"), 0)
        self.assertEqual(self.book.names(), ["ann", "bob"])

    def test_a_price_of_nought(self):
        self.assertEqual(self.book.retire(6, "ann", 4, 0), [(1, 4, 40, 0)])
        self.assertEqual(self.book.gain_of("ann"), -40)

    def test_it_goes_into_the_same_gain_as_selling(self):
        self.book.sell(5, "ann", "bob", 5, 60)
        self.book.retire(6, "ann", 5, 45)
        self.assertEqual(self.book.gain_of("ann"), 5)

    def test_thirty_figures(self):
        book = book_of([("issue", 0, "ann", BIG, BIG)])
        self.assertEqual(book.retire(BIG, "ann", BIG - 1, BIG), [(0, BIG - 1, BIG - 1, BIG)])
        self.assertEqual(book.lots_of("ann"), [(0, 1, 1)])
        self.assertEqual((book.gain_of("ann"), book.shares()), (1, 1))


if __name__ == "__main__":
    unittest.main()
