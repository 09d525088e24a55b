"""`run`: a list of deeds done to a new book."""

import copy
import unittest

from bookstate import all_of, book_of
from lotbook.books import Book
from lotbook.errors import NoDeed, ShareError
from lotbook.runs import run

BIG = 10 ** 30 - 1

GOOD = [
    ("issue", 1, "ann", 10, 100),
    ("issue", 1, "bob", 4, 7),
    ("sell", 3, "ann", "bob", 10, 130),
    ("split", 4, 2),
    ("pay", 5, 100),
    ("join", 5, 2),
    ("retire", 6, "bob", 6, 60),
]
ANSWERS = [
    None,
    None,
    [(1, 10, 100, 130)],
    None,
    # Share-days: 40 and 44 at the split, and 28 more of bob's.
    [("ann", 35), ("bob", 65)],
    None,
    [(1, 4, 7, 40), (3, 2, 26, 20)],
]

# Each with the deed that is refused and the text that it answers, behind ann's and bob's odd lots.
BEHIND = [("issue", 5, "ann", 3, 9), ("issue", 5, "bob", 5, 9)]
REFUSED = [
    (("issue", 4, "ann", 1, 1), "bad day"),
    (("sell", 4, "ann", "bob", 1, 1), "bad day"),
    (("retire", 4, "ann", 1, 1), "bad day"),
    (("split", 4, 2), "bad day"),
    (("join", 4, 2), "bad day"),
    (("pay", 4, 1), "bad day"),
    (("issue", 6, "ann", 0, 1), "bad number"),
    (("issue", 6, "ann", 1, -1), "bad number"),
    (("sell", 6, "ann", "bob", 0, 1), "bad number"),
    (("sell", 6, "ann", "bob", 1, -1), "bad number"),
    (("retire", 6, "ann", 0, 1), "bad number"),
    (("retire", 6, "ann", 1, -1), "bad number"),
    (("split", 6, 1), "bad number"),
    (("join", 6, 1), "bad number"),
    (("pay", 6, -1), "bad number"),
    (("sell", 6, "ann", "ann", 1, 1), "same hands"),
    (("sell", 6, "ann", "bob", 4, 1), "too few"),
    (("sell", 6, "dan", "bob", 1, 1), "too few"),
    (("retire", 6, "ann", 4, 1), "too few"),
    (("retire", 6, "dan", 1, 1), "too few"),
    (("join", 6, 2), "uneven"),
    (("pay", 5, 1), "no days"),
    (("pay", 5, 0), "no days"),
]


class Run(unittest.TestCase):
    def test_each_of_the_six_words(self):
        answers, book = run(GOOD)
        self.assertEqual(answers, ANSWERS)
        self.assertEqual(all_of(book), all_of(book_of(GOOD)))

    def test_it_is_a_tuple_of_a_list_and_a_book(self):
        told = run(GOOD)
        self.assertIs(type(told), tuple)
        self.assertEqual(len(told), 2)
        self.assertIs(type(told[0]), list)
        self.assertIs(type(told[1]), Book)

    def test_no_deeds(self):
        answers, book = run([])
        self.assertEqual(answers, [])
        self.assertEqual(all_of(book), all_of(Book()))

    def test_each_refusal_answers_its_text_and_the_deeds_behind_it_are_done(self):
        later = [("issue", 5, "cat", 2, 2), ("sell", 8, "ann", "bob", 3, 3)]
        for deed, text in REFUSED:
            with self.subTest(deed):
                answers, book = run([*BEHIND, deed, *later])
                self.assertEqual(answers, [None, None, text, None, [(5, 3, 9, 3)]])
                self.assertIs(type(answers[2]), str)
                self.assertEqual(all_of(book), all_of(book_of([*BEHIND, *later])))

    def test_refused_first_and_last_and_alone(self):
        answers, book = run([("pay", 3, 1), ("issue", 0, "ann", 1, 1), ("retire", 9, "ann", 2, 0)])
        self.assertEqual(answers, ["no days", None, "too few"])
        self.assertEqual(all_of(book), all_of(book_of([("issue", 0, "ann", 1, 1)])))
        answers, book = run([("issue", -1, "ann", 1, 1)])
        self.assertEqual(answers, ["bad day"])
        self.assertEqual(all_of(book), all_of(Book()))

    def test_many_refusals_in_one_run(self):
        answers, book = run([*BEHIND, *[deed for deed, _ in REFUSED]])
        self.assertEqual(answers, [None, None, *[text for _, text in REFUSED]])
        self.assertEqual(all_of(book), all_of(book_of(BEHIND)))

    def test_what_breaks_two_answers_by_the_first(self):
        for deed, text in (
            (("issue", 4, "ann", 0, 1), "bad day"),
            (("sell", 5, "ann", "ann", 0, 1), "bad number"),
            (("sell", 5, "dan", "dan", 1, 1), "same hands"),
            (("join", 4, 2), "bad day"),
            (("join", 5, -2), "bad number"),
            (("pay", 5, -1), "bad number"),
        ):
            with self.subTest(deed):
                self.assertEqual(run([*BEHIND, deed])[0], [None, None, text])

    def test_one_deed_twice(self):
        deed = ("issue", 2, "ann", 3, 4)
        answers, book = run([deed, deed])
        self.assertEqual(answers, [None, None])
        self.assertEqual(book.lots_of("ann"), [(2, 3, 4), (2, 3, 4)])

    def test_names_that_are_words_of_deeds(self):
        answers, book = run([("issue", 0, "pay", 3, 3), ("sell", 1, "pay", "too few", 1, 2)])
        self.assertEqual(answers, [None, [(0, 1, 1, 2)]])
        self.assertEqual(book.names(), ["pay", "too few"])

    def test_thirty_figures(self):
        answers, book = run([
            ("issue", 0, "ann", BIG, BIG),
            ("split", BIG, BIG),
            ("sell", BIG, "ann", "bob", BIG, BIG),
            ("pay", BIG, BIG),
        ])
        self.assertEqual(answers, [None, None, [(0, BIG, 1, BIG)], [("ann", BIG), ("bob", 0)]])
        self.assertEqual(book.lots_of("ann"), [(0, BIG * BIG - BIG, BIG - 1)])


class NoDeeds(unittest.TestCase):
    WORDS = [
        "", " ", "buy", "Issue", "ISSUE", "issue ", " issue", "issue\n", "split_by", "join_by", "names",
        "shares_of", "day", "issu", "issues", "s", "__init__", "no days", "x" * 5000,
    ]

    def test_another_text_is_refused_whatever_else_stands_in_the_tuple(self):
        for word in self.WORDS:
            for rest in ((), (1,), (1, 2), (1, "ann", 2, 3), (1, "ann", "bob", 2, 3), (-1, "", 0, -1), (None,) * 9):
                with self.subTest(word=word[:20], rest=rest), self.assertRaises(NoDeed):
                    run([(word, *rest)])

    def test_also_behind_good_deeds_and_ahead_of_them(self):
        for deeds in (
            [*GOOD, ("buy", 9, "ann", 1, 1)],
            [("buy", 0, "ann", 1, 1), *GOOD],
            [*GOOD[:3], ("buy", 3, "ann", 1, 1), *GOOD[3:]],
        ):
            with self.assertRaises(NoDeed):
                run(deeds)

    def test_also_behind_refused_deeds(self):
        with self.assertRaises(NoDeed):
            run([*BEHIND, *[deed for deed, _ in REFUSED], ("buy",)])

    def test_it_is_caught_as_any_refusal(self):
        with self.assertRaises(ShareError):
            run([("buy",)])


class WhatIsHandedIn(unittest.TestCase):
    def test_the_deeds_stay_as_they_were(self):
        for deeds in ([], GOOD, [*BEHIND, *[deed for deed, _ in REFUSED]]):
            handed = copy.deepcopy(deeds)
            run(handed)
            self.assertEqual(handed, deeds)

    def test_they_stay_as_they_were_behind_a_refusal(self):
        deeds = [*GOOD, ("buy", 1), *GOOD]
        handed = copy.deepcopy(deeds)
        with self.assertRaises(NoDeed):
            run(handed)
        self.assertEqual(handed, deeds)

    def test_each_run_is_of_a_book_of_its_own(self):
        first, one = run(GOOD)
        second, other = run(GOOD)
        self.assertEqual(first, second)
        self.assertIsNot(one, other)
        one.issue(9, "dan", 1, 1)
        self.assertEqual(all_of(other), all_of(book_of(GOOD)))

    def test_the_answers_may_be_changed(self):
        answers, book = run(GOOD)
        before = all_of(book)
        for told in answers:
            if told is not None:
                told.clear()
        answers.clear()
        self.assertEqual(all_of(book), before)
        self.assertEqual(run(GOOD)[0], ANSWERS)

    def test_the_book_goes_on_by_its_own_methods(self):
        _, book = run(GOOD[:3])
        same = book_of(GOOD)
        for deed, told in zip(GOOD[3:], ANSWERS[3:]):
            word, *given = deed
            method = {"split": book.split_by, "join": book.join_by}.get(word) or getattr(book, word)
            self.assertEqual(method(*given), told)
        self.assertEqual(all_of(book), all_of(same))


if __name__ == "__main__":
    unittest.main()
