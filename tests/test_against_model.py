"""Long rows of deeds, held against a slow model that goes by the document's words day by day."""

import unittest
from fractions import Fraction

from bookstate import do
from lotbook.books import Book
from lotbook.errors import ShareError
from lotbook.runs import run

NAMES = ["ann", "bob", "cat", "", "dan "]


class Refusal(Exception):
    """The model's refusal: its message is the text that a run answers."""


def need(good, text):
    if not good:
        raise Refusal(text)


def floor(number):
    return number.numerator // number.denominator


def shared(coins, weights):
    need(sum(weights) > 0, "no days")
    up_to = [floor(Fraction(coins * sum(weights[:many]), sum(weights))) for many in range(len(weights) + 1)]
    return [high - low for low, high in zip(up_to, up_to[1:])]


class Model:
    """A dict of plain dicts. Each deed works on a copy, which takes the old one's place when it is done."""

    def __init__(self):
        self.day = 0
        self.holders = {}

    def do(self, deed):
        word, day, *given = deed
        need(day >= self.day, "bad day")
        holders = {who: {**kept, "lots": list(kept["lots"])} for who, kept in self.holders.items()}
        for _ in range(day - self.day):
            for kept in holders.values():
                kept["days"] += sum(lot[1] for lot in kept["lots"])
        answer = getattr(self, f"do_{word}")(holders, day, *given)
        self.day, self.holders = day, holders
        return answer

    def take(self, holders, who, lot):
        holders.setdefault(who, {"lots": [], "gain": 0, "got": 0, "days": 0})["lots"].append(lot)

    def let_go(self, holders, who, count, price):
        lots = holders[who]["lots"] if who in holders else []
        need(sum(lot[1] for lot in lots) >= count, "too few")
        gone = []
        while count > 0:
            day, many, cost = lots.pop(0)
            part = many if many <= count else count
            part_cost = floor(Fraction(cost, many) * part)
            gone.append((day, part, part_cost))
            count -= part
            if part < many:
                lots.insert(0, (day, many - part, cost - part_cost))
        prices = shared(price, [lot[1] for lot in gone])
        holders[who]["gain"] += sum(prices) - sum(lot[2] for lot in gone)
        return [(*lot, part) for lot, part in zip(gone, prices)]

    def do_issue(self, holders, day, who, count, paid):
        need(count >= 1 and paid >= 0, "bad number")
        self.take(holders, who, (day, count, paid))

    def do_sell(self, holders, day, giver, taker, count, price):
        need(count >= 1 and price >= 0, "bad number")
        need(giver != taker, "same hands")
        rows = self.let_go(holders, giver, count, price)
        self.take(holders, taker, (day, count, price))
        return rows

    def do_retire(self, holders, day, who, count, price):
        need(count >= 1 and price >= 0, "bad number")
        return self.let_go(holders, who, count, price)

    def do_split(self, holders, day, number):
        need(number >= 2, "bad number")
        for kept in holders.values():
            kept["lots"] = [(got, count * number, cost) for got, count, cost in kept["lots"]]
            kept["days"] *= number

    def do_join(self, holders, day, number):
        need(number >= 2, "bad number")
        for kept in holders.values():
            need(all(lot[1] % number == 0 for lot in kept["lots"]), "uneven")
            need(kept["days"] % number == 0, "uneven")
            kept["lots"] = [(got, count // number, cost) for got, count, cost in kept["lots"]]
            kept["days"] //= number

    def do_pay(self, holders, day, coins):
        need(coins >= 0, "bad number")
        told = list(zip(holders, shared(coins, [kept["days"] for kept in holders.values()])))
        for who, part in told:
            holders[who]["got"] += part
            holders[who]["days"] = 0
        return told


class Numbers:
    """A row of numbers that looks without order, but is the same each time."""

    def __init__(self, seed):
        self.state = seed

    def below(self, limit):
        self.state = (self.state * 6364136223846793005 + 1442695040888963407) % 2 ** 64
        return (self.state >> 33) % limit

    def one_of(self, things):
        return things[self.below(len(things))]


def deed_of(numbers, day):
    """A deed on about that day; some are refused."""
    day += numbers.one_of([0, 0, 0, 1, 1, 2, 5, -1])
    word = numbers.one_of(["issue", "issue", "sell", "sell", "sell", "retire", "split", "join", "join", "pay"])
    who, other = numbers.one_of(NAMES), numbers.one_of(NAMES)
    count, coins = numbers.below(25), numbers.below(60) - 1
    if word == "issue":
        return (word, day, who, count * numbers.one_of([1, 2, 4]), coins)
    if word == "sell":
        return (word, day, who, other, count, coins)
    if word == "retire":
        return (word, day, who, count, coins)
    if word in ("split", "join"):
        return (word, day, numbers.one_of([2, 2, 2, 3, 1]))
    return (word, day, coins)


def answer_of(model, deed):
    try:
        return model.do(deed)
    except Refusal as refusal:
        return str(refusal)


class AgainstModel(unittest.TestCase):
    def check_same(self, book, model):
        self.assertEqual((book.day, book.names()), (model.day, list(model.holders)))
        for who, kept in model.holders.items():
            self.assertEqual(book.lots_of(who), kept["lots"])
            self.assertEqual(book.shares_of(who), sum(lot[1] for lot in kept["lots"]))
            self.assertEqual(book.gain_of(who), kept["gain"])
            self.assertEqual(book.got_of(who), kept["got"])
            self.assertEqual(book.days_of(who), kept["days"])
        self.assertEqual(book.shares(), sum(book.shares_of(who) for who in NAMES))

    def test_rows_of_deeds(self):
        seen = {}
        for seed in range(120):
            numbers = Numbers(seed)
            book, model, deeds, answers = Book(), Model(), [], []
            for _ in range(40):
                deed = deed_of(numbers, model.day)
                answer = answer_of(model, deed)
                deeds.append(deed)
                answers.append(answer)
                if isinstance(answer, str):
                    with self.assertRaises(ShareError):
                        do(book, deed)
                else:
                    self.assertEqual(do(book, deed), answer)
                self.check_same(book, model)
                key = (deed[0], answer if isinstance(answer, str) else "done")
                seen[key] = seen.get(key, 0) + 1
            told, book = run(deeds)
            self.assertEqual(told, answers)
            self.check_same(book, model)
        # The rows would show little if some kind of deed were never done, or never refused.
        wanted = [(word, text) for word in ("issue", "sell", "retire", "split", "join", "pay")
                  for text in ("done", "bad day", "bad number")]
        wanted += [("sell", "same hands"), ("sell", "too few"), ("retire", "too few"),
                   ("join", "uneven"), ("pay", "no days")]
        for key in wanted:
            self.assertGreater(seen.get(key, 0), 5, key)


if __name__ == "__main__":
    unittest.main()
