"""What numbers must keep to, and the refusals where they do not."""

from lotbook.errors import BadNumber, Uneven


def refuse_below(least, number):
    """Refuse a number that is below the least that it may be."""
    if number < least:
        raise BadNumber("a number is too low")


def divided(number, by):
    """One number by another one, refused where it does not come out whole."""
    quotient, rest = divmod(number, by)
    if rest != 0:
        raise Uneven("a number does not come out whole")
    return quotient
