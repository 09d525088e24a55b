"""Points 5 and 14: what is refused, in which order, and that a refused deed changes nothing."""

import unittest

from bookstate import all_of, book_of, do
from lotbook.books import Book
from lotbook.errors import BadDay, BadNumber, NoDays, SameHands, TooFew, Uneven

BIG = 10 ** 30 - 1

# Day 5; ann has 7 shares in two lots, bob 3, cat none any more; gains, coins got and share-days stand.
ORDINARY = [
    ("issue", 1, "ann", 6, 20),
    ("issue", 1, "cat", 2, 9),
    ("issue", 2, "ann", 5, 3),
    ("sell", 3, "ann", "bob", 4, 30),
    ("retire", 3, "bob", 1, 9),
    ("pay", 4, 50),
    ("retire", 5, "cat", 2, 1),
]
# Day 5; counts and share-days are even, but for those of bob, who has an odd lot in the midst.
ODD_LOT = [
    ("issue", 5, "ann", 6, 20),
    ("issue", 5, "bob", 2, 9),
    ("issue", 5, "bob", 3, 9),
    ("issue", 5, "bob", 2, 9),
    ("issue", 5, "cat", 4, 3),
]
# Day 5; all counts are even, but one who stands in the midst has three share-days.
ODD_DAYS = [
    ("issue", 4, "ann", 6, 20),
    ("issue", 4, "bob", 3, 9),
    ("issue", 5, "cat", 4, 3),
    ("retire", 5, "bob", 3, 9),
]
# Day 5; there are shares, but all share-days are nought.
ALL_PAID = [*ORDINARY, ("pay", 5, 1)]
EMPTY = []

REFUSED = [
    (ORDINARY, BadDay, [
        ("issue", 4, "ann", 1, 1),
        ("issue", 0, "dan", 1, 1),
        ("issue", -1, "dan", 1, 1),
        ("issue", -BIG, "dan", 1, 1),
        ("sell", 4, "ann", "bob", 1, 1),
        ("sell", 0, "ann", "dan", 1, 1),
        ("retire", 4, "ann", 1, 1),
        ("retire", 0, "bob", 3, 0),
        ("split", 4, 2),
        ("split", -1, 2),
        ("join", 4, 2),
        ("join", 0, 2),
        ("pay", 4, 10),
        ("pay", 0, 0),
    ]),
    (EMPTY, BadDay, [
        ("issue", -1, "ann", 1, 1),
        ("sell", -1, "ann", "bob", 1, 1),
        ("retire", -1, "ann", 1, 1),
        ("split", -1, 2),
        ("join", -1, 2),
        ("pay", -1, 1),
    ]),
    (ORDINARY, BadNumber, [
        ("issue", 5, "ann", 0, 1),
        ("issue", 5, "dan", -1, 1),
        ("issue", 6, "dan", -BIG, 1),
        ("issue", 6, "ann", 1, -1),
        ("issue", 6, "dan", 1, -BIG),
        ("issue", 6, "dan", 0, -1),
        ("sell", 5, "ann", "bob", 0, 1),
        ("sell", 6, "ann", "dan", -1, 1),
        ("sell", 6, "ann", "bob", 1, -1),
        ("sell", 6, "ann", "dan", 1, -BIG),
        ("sell", 6, "ann", "dan", 0, -1),
        ("retire", 5, "ann", 0, 1),
        ("retire", 6, "ann", -1, 1),
        ("retire", 6, "ann", 1, -1),
        ("retire", 6, "ann", -BIG, -BIG),
        ("split", 5, 1),
        ("split", 6, 0),
        ("split", 6, -1),
        ("split", 6, -BIG),
        ("join", 5, 1),
        ("join", 6, 0),
        ("join", 6, -1),
        ("join", 6, -BIG),
        ("pay", 5, -1),
        ("pay", 6, -BIG),
    ]),
    (EMPTY, BadNumber, [("split", 0, 1), ("join", 0, 1), ("split", 3, 0), ("join", 3, 0)]),
    (ORDINARY, SameHands, [
        ("sell", 5, "ann", "ann", 1, 1),
        ("sell", 6, "bob", "bob", 3, 0),
    ]),
    (ORDINARY, TooFew, [
        ("sell", 5, "ann", "bob", 8, 1),
        ("sell", 6, "ann", "dan", BIG, 1),
        ("sell", 6, "bob", "ann", 4, 0),
        ("sell", 6, "cat", "ann", 1, 1),
        ("sell", 6, "dan", "ann", 1, 1),
        ("sell", 6, "dan", "eve", 1, 1),
        ("sell", 6, "", "ann", 1, 1),
        ("sell", 6, "ann ", "bob", 1, 1),
        ("retire", 5, "ann", 8, 1),
        ("retire", 6, "bob", 4, 1),
        ("retire", 6, "cat", 1, 0),
        ("retire", 6, "dan", 1, 1),
        ("retire", 6, "", 1, 1),
    ]),
    (EMPTY, TooFew, [("sell", 3, "ann", "bob", 1, 1), ("retire", 3, "ann", 1, 0)]),
    (ODD_LOT, Uneven, [("join", 5, 2), ("join", 6, 2), ("join", 9, 3), ("join", 9, BIG)]),
    (ODD_DAYS, Uneven, [("join", 5, 2), ("join", 6, 2), ("join", 7, 2)]),
    (ALL_PAID, NoDays, [("pay", 5, 0), ("pay", 5, 1), ("pay", 5, BIG)]),
    (EMPTY, NoDays, [("pay", 0, 0), ("pay", 0, 7), ("pay", 4, 0), ("pay", 4, 7)]),
]

# Each breaks two or more: what comes first in point 14 answers.
BROKEN_TWICE = [
    (ORDINARY, BadDay, [
        ("issue", 4, "ann", 0, 1),
        ("issue", 4, "ann", 1, -1),
        ("issue", 4, "dan", 0, -1),
        ("sell", 4, "ann", "bob", 0, 1),
        ("sell", 4, "ann", "bob", 1, -1),
        ("sell", 4, "ann", "ann", 1, 1),
        ("sell", 4, "ann", "bob", 8, 1),
        ("sell", 4, "dan", "dan", -1, -1),
        ("retire", 4, "ann", 0, 1),
        ("retire", 4, "ann", 1, -1),
        ("retire", 4, "ann", 8, 1),
        ("retire", 4, "dan", 1, 1),
        ("split", 4, 1),
        ("split", 4, 0),
        ("join", 4, 1),
        ("join", 4, 0),
        ("pay", 4, -1),
    ]),
    (ODD_LOT, BadDay, [("join", 4, 2)]),
    (ODD_DAYS, BadDay, [("join", 4, 2)]),
    (ALL_PAID, BadDay, [("pay", 4, 0), ("pay", 4, 1), ("pay", 4, -1)]),
    (EMPTY, BadDay, [("sell", -1, "ann", "bob", 1, 1), ("retire", -1, "ann", 1, 1), ("pay", -1, 1)]),
    (ORDINARY, BadNumber, [
        ("sell", 5, "ann", "ann", 0, 1),
        ("sell", 5, "ann", "ann", 1, -1),
        ("sell", 5, "bob", "ann", 4, -1),
        ("sell", 5, "dan", "ann", 0, 1),
        ("sell", 5, "dan", "dan", 1, -1),
        ("retire", 5, "ann", 8, -1),
        ("retire", 5, "cat", 1, -1),
        ("retire", 5, "dan", 0, 1),
    ]),
    (ODD_LOT, BadNumber, [("join", 5, 0), ("join", 5, -1), ("join", 5, -2)]),
    (ODD_DAYS, BadNumber, [("join", 5, 0), ("join", 5, -1), ("join", 5, -2)]),
    (ALL_PAID, BadNumber, [("pay", 5, -1)]),
    (EMPTY, BadNumber, [("pay", 0, -1), ("pay", 3, -BIG)]),
    (ORDINARY, SameHands, [
        ("sell", 5, "ann", "ann", 8, 1),
        ("sell", 5, "cat", "cat", 1, 1),
        ("sell", 5, "dan", "dan", 1, 1),
        ("sell", 5, "", "", BIG, 1),
    ]),
]

# Done behind a refusal, to see that nothing stays of it that is not told at once.
AFTERWARDS = [
    ("issue", 7, "eve", 2, 4),
    ("sell", 8, "eve", "ann", 1, 3),
    ("split", 9, 4),
    ("join", 10, 2),
    ("pay", 11, 1000),
    ("issue", 12, "dan", 1, 1),
    ("pay", 13, 1000),
]


class RefusalCase(unittest.TestCase):
    def check_refused(self, deeds, kind, deed):
        book = book_of(deeds)
        before = all_of(book, ("dan", "eve", "", "ann "))
        with self.assertRaises(kind):
            do(book, deed)
        self.assertEqual(all_of(book, ("dan", "eve", "", "ann ")), before)
        untouched = book_of(deeds)
        for later in AFTERWARDS:
            self.assertEqual(do(book, later), do(untouched, later))
            self.assertEqual(all_of(book), all_of(untouched))

    def check_table(self, table):
        for deeds, kind, refused in table:
            for deed in refused:
                with self.subTest(kind.__name__, deed=deed, behind=deeds):
                    self.check_refused(deeds, kind, deed)


class Refusals(RefusalCase):
    def test_each_refusal_changes_nothing(self):
        self.check_table(REFUSED)

    def test_what_comes_first_answers(self):
        self.check_table(BROKEN_TWICE)

    def test_refusals_one_behind_the_other_change_nothing(self):
        for deeds in (ORDINARY, ODD_LOT, ODD_DAYS, ALL_PAID, EMPTY):
            book = book_of(deeds)
            before = all_of(book)
            for same, kind, refused in [*REFUSED, *BROKEN_TWICE]:
                if same is deeds:
                    for deed in refused:
                        with self.assertRaises(kind):
                            do(book, deed)
            self.assertEqual(all_of(book), before)

    def test_a_taker_whose_name_was_made_anew_is_the_giver(self):
        for who in ("ann", "", "no such one"):
            self.check_refused(ORDINARY, SameHands, ("sell", 5, who, "".join(list(who)), 1, 1))


class NotRefused(unittest.TestCase):
    """The edges on this side: the same tables' nearest deeds that are done."""

    def test_deeds_that_are_just_good(self):
        for deeds, deed in [
            (ORDINARY, ("issue", 5, "ann", 1, 0)),
            (ORDINARY, ("sell", 5, "ann", "bob", 7, 0)),
            (ORDINARY, ("sell", 5, "bob", "ann", 3, 0)),
            (ORDINARY, ("sell", 5, "ann", "ann ", 1, 0)),
            (ORDINARY, ("retire", 5, "ann", 7, 0)),
            (ORDINARY, ("retire", 5, "bob", 1, 0)),
            (ORDINARY, ("split", 5, 2)),
            (ORDINARY, ("pay", 5, 0)),
            (ALL_PAID, ("pay", 6, 0)),
            (ODD_LOT, ("pay", 6, 1)),
            (EMPTY, ("issue", 0, "ann", 1, 0)),
            (EMPTY, ("split", 0, 2)),
            (EMPTY, ("join", 0, 2)),
        ]:
            with self.subTest(deed, behind=deeds):
                do(book_of(deeds), deed)

    def test_the_tables_are_what_they_are_said_to_be(self):
        book = book_of(ORDINARY)
        self.assertEqual([book.shares_of(who) for who in ("ann", "bob", "cat")], [7, 3, 0])
        self.assertTrue(all(book.gain_of(who) and book.got_of(who) for who in ("ann", "bob", "cat")))
        self.assertTrue(all(book.days_of(who) for who in ("ann", "bob", "cat")))
        odd = book_of(ODD_DAYS)
        self.assertEqual([odd.shares_of(who) % 2 for who in odd.names()], [0, 0, 0])
        self.assertEqual([odd.days_of(who) % 2 for who in odd.names()], [0, 1, 0])
        paid = book_of(ALL_PAID)
        self.assertEqual([paid.days_of(who) for who in paid.names()], [0, 0, 0])
        self.assertEqual([made.day for made in (book, odd, paid, book_of(ODD_LOT), Book())], [5, 5, 5, 5, 0])


if __name__ == "__main__":
    unittest.main()
