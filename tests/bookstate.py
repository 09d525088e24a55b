"""What several tests need: all that a book tells, and deeds done by a book's own methods."""

from lotbook.books import Book

STRANGERS = ("a stranger", "")


def all_of(book, also=STRANGERS):
    """All that a book tells, of its holders and of others, to hold two states against each other."""
    names = book.names()
    asked = [*names, *[who for who in also if who not in names]]
    return {
        "day": book.day,
        "names": names,
        "shares": book.shares(),
        "of each": [
            (
                who,
                book.lots_of(who),
                book.shares_of(who),
                book.gain_of(who),
                book.got_of(who),
                book.days_of(who),
            )
            for who in asked
        ],
    }


def do(book, deed):
    """Do a deed that is told as one of `run`, by the book's own method."""
    word, *given = deed
    name = {"split": "split_by", "join": "join_by"}.get(word, word)
    return getattr(book, name)(*given)


def book_of(deeds):
    """A book to which the deeds are done by its own methods."""
    book = Book()
    for deed in deeds:
        do(book, deed)
    return book
