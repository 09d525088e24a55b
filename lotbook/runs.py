"""Doing a list of deeds to a new book."""

from lotbook.books import Book
from lotbook.errors import BadDay, BadNumber, NoDays, NoDeed, SameHands, TooFew, Uneven


def done(book, deed):
    """Do a deed to a book; what its method answers."""
    word, *given = deed
    match word:
        case "issue":
            return book.issue(*given)
        case "sell":
            return book.sell(*given)
        case "retire":
            return book.retire(*given)
        case "split":
            return book.split_by(*given)
        case "join":
            return book.join_by(*given)
        case "pay":
            return book.pay(*given)
        case _:
            raise NoDeed("no deed has this word")


def answer(book, deed):
    """Do a deed to a book; what it answers, which is a text where it is refused."""
    try:
        return done(book, deed)
    except BadDay:
        return "bad day"
    except BadNumber:
        return "bad number"
    except SameHands:
        return "same hands"
    except TooFew:
        return "too few"
    except Uneven:
        return "uneven"
    except NoDays:
        return "no days"


def run(deeds):
    """What each of the deeds answered, in order, and the new book to which they were done."""
    book = Book()
    answers = []
    for deed in deeds:
        answers.append(answer(book, deed))
    return answers, book
