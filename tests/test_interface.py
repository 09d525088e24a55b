"""The interface: names, arguments, and where each is defined."""

import importlib
import inspect
import unittest

FUNCTIONS = {
    "sharing": {"parts": ["coins", "weights"]},
    "lots": {
        "many_of": ["lots"],
        "cost_of": ["lots"],
        "used": ["lots", "count"],
        "widened": ["lots", "number"],
        "narrowed": ["lots", "number"],
    },
    "runs": {"run": ["deeds"]},
}
METHODS = {
    "issue": ["day", "who", "count", "paid"],
    "split_by": ["day", "number"],
    "join_by": ["day", "number"],
    "sell": ["day", "giver", "taker", "count", "price"],
    "retire": ["day", "who", "count", "price"],
    "pay": ["day", "coins"],
    "names": [],
    "shares": [],
    "shares_of": ["who"],
    "gain_of": ["who"],
    "got_of": ["who"],
    "days_of": ["who"],
    "lots_of": ["who"],
}


class Interface(unittest.TestCase):
    def test_each_function_takes_its_arguments_and_is_defined_in_its_file(self):
        for file, functions in FUNCTIONS.items():
            module = importlib.import_module(f"lotbook.{file}")
            for name, arguments in functions.items():
                with self.subTest(file=file, name=name):
                    function = getattr(module, name)
                    self.assertEqual(function.__module__, f"lotbook.{file}")
                    self.assertEqual(list(inspect.signature(function).parameters), arguments)

    def test_each_method_takes_its_arguments_and_is_defined_in_the_class_itself(self):
        books = importlib.import_module("lotbook.books")
        self.assertEqual(books.Book.__module__, "lotbook.books")
        for name, arguments in METHODS.items():
            with self.subTest(name):
                method = vars(books.Book)[name]
                self.assertEqual(list(inspect.signature(method).parameters), ["self", *arguments])

    def test_a_book_is_made_without_arguments_and_has_its_day_at_once(self):
        books = importlib.import_module("lotbook.books")
        self.assertEqual(list(inspect.signature(books.Book).parameters), [])
        self.assertEqual(vars(books.Book())["day"], 0)

    def test_methods_take_their_arguments_by_name(self):
        book = importlib.import_module("lotbook.books").Book()
        self.assertIsNone(book.issue(day=0, who="ann", count=4, paid=8))
        self.assertEqual(book.sell(day=1, giver="ann", taker="bob", count=2, price=5), [(0, 2, 4, 5)])
        self.assertEqual(book.retire(day=1, who="ann", count=2, price=5), [(0, 2, 4, 5)])
        self.assertIsNone(book.split_by(day=1, number=2))
        self.assertIsNone(book.join_by(day=1, number=2))
        self.assertEqual(book.pay(day=1, coins=3), [("ann", 3), ("bob", 0)])


if __name__ == "__main__":
    unittest.main()
