"""What a book tells: of strangers, of all, and by lists that may be changed."""

import copy
import unittest

from bookstate import all_of, book_of
from lotbook.books import Book

DEEDS = [
    ("issue", 1, "ann", 10, 100),
    ("issue", 4, "ann", 5, 7),
    ("issue", 4, "bob", 3, 1),
    ("sell", 5, "ann", "cat", 12, 200),
    ("pay", 6, 100),
    ("retire", 8, "bob", 3, 9),
]


def spoil(told):
    """Change a list in each way that a list can be changed."""
    told.append(("x", 1))
    told.reverse()
    told[0] = None
    del told[1:]
    told.clear()


class Strangers(unittest.TestCase):
    def test_all_is_nought_and_there_are_no_lots(self):
        for book in (Book(), book_of(DEEDS)):
            for who in ("dan", "", "ann ", "Ann", "ann\n"):
                with self.subTest(who=who, day=book.day):
                    self.assertEqual(book.shares_of(who), 0)
                    self.assertEqual(book.gain_of(who), 0)
                    self.assertEqual(book.got_of(who), 0)
                    self.assertEqual(book.days_of(who), 0)
                    self.assertEqual(book.lots_of(who), [])

    def test_one_who_took_part_in_a_refused_deed_alone_is_a_stranger(self):
        book = book_of(DEEDS)
        with self.assertRaises(ValueError):
            book.sell(9, "ann", "dan", 99, 1)
        with self.assertRaises(ValueError):
            book.issue(9, "dan", 0, 1)
        self.assertEqual(book.names(), ["ann", "bob", "cat"])
        self.assertEqual(book.lots_of("dan"), [])


class Told(unittest.TestCase):
    def test_of_each(self):
        book = book_of(DEEDS)
        self.assertEqual(book.names(), ["ann", "bob", "cat"])
        self.assertEqual([book.shares_of(who) for who in book.names()], [3, 0, 12])
        self.assertEqual([book.gain_of(who) for who in book.names()], [98, 8, 0])
        # Share-days up to day 6: 30 + 15 + 3, 6 and 12.
        self.assertEqual([book.got_of(who) for who in book.names()], [72, 9, 19])
        self.assertEqual([book.days_of(who) for who in book.names()], [6, 6, 24])
        self.assertEqual(book.lots_of("ann"), [(4, 3, 5)])
        self.assertEqual(book.lots_of("cat"), [(5, 12, 200)])

    def test_shares_of_all(self):
        self.assertEqual(Book().shares(), 0)
        counts = []
        book = Book()
        for word, *given in DEEDS:
            getattr(book, word)(*given)
            counts.append(book.shares())
        self.assertEqual(counts, [10, 15, 18, 18, 18, 15])
        book.split_by(9, 10)
        self.assertEqual(book.shares(), 150)

    def test_asking_changes_nothing(self):
        book = book_of(DEEDS)
        self.assertEqual(all_of(book), all_of(book))
        self.assertEqual(all_of(book), all_of(book_of(DEEDS)))

    def test_kinds_of_what_is_told(self):
        book = book_of(DEEDS)
        for who in ("ann", "bob", "dan"):
            for ask in (book.shares_of, book.gain_of, book.got_of, book.days_of):
                self.assertIs(type(ask(who)), int)
            self.assertIs(type(book.lots_of(who)), list)
        self.assertTrue(all(type(lot) is tuple for lot in book.lots_of("ann")))
        self.assertIs(type(book.names()), list)
        self.assertIs(type(book.shares()), int)
        self.assertIs(type(book.day), int)


class ListsThatAreTold(unittest.TestCase):
    def test_those_of_asking_may_be_changed(self):
        book = book_of(DEEDS)
        before = all_of(book)
        spoil(book.names())
        spoil(book.lots_of("ann"))
        spoil(book.lots_of("bob"))
        spoil(book.lots_of("a stranger"))
        self.assertEqual(all_of(book), before)
        self.assertEqual(book.lots_of("a stranger"), [])

    def test_those_of_deeds_may_be_changed(self):
        book = book_of(DEEDS)
        same = book_of(DEEDS)
        spoil(book.sell(9, "cat", "ann", 5, 70))
        same.sell(9, "cat", "ann", 5, 70)
        self.assertEqual(all_of(book), all_of(same))
        spoil(book.retire(10, "ann", 8, 70))
        same.retire(10, "ann", 8, 70)
        self.assertEqual(all_of(book), all_of(same))
        spoil(book.pay(11, 70))
        same.pay(11, 70)
        self.assertEqual(all_of(book), all_of(same))
        self.assertEqual(book.sell(12, "cat", "ann", 7, 1), same.sell(12, "cat", "ann", 7, 1))

    def test_those_of_asking_stay_as_they_were_told(self):
        book = book_of(DEEDS)
        told = [book.names(), book.lots_of("ann"), book.lots_of("cat")]
        kept = copy.deepcopy(told)
        told.append(book.sell(9, "cat", "dan", 5, 70))
        kept.append(copy.deepcopy(told[-1]))
        told.append(book.pay(10, 70))
        kept.append(copy.deepcopy(told[-1]))
        book.issue(10, "ann", 4, 1)
        book.split_by(10, 3)
        book.sell(12, "ann", "eve", 15, 1)
        book.pay(13, 7)
        self.assertEqual(told, kept)

    def test_those_of_different_holders_are_their_own(self):
        book = book_of([("issue", 0, "ann", 3, 3), ("issue", 0, "bob", 3, 3)])
        book.lots_of("ann").clear()
        self.assertEqual(book.lots_of("bob"), [(0, 3, 3)])
        self.assertIsNot(book.lots_of("ann"), book.lots_of("ann"))
        self.assertIsNot(book.names(), book.names())


if __name__ == "__main__":
    unittest.main()
