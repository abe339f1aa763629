"""Closers told by a family, by rules or by the rows of a table, and the corners that tell them."""

from closerworks.closers import Closer, check_closer, word_of
from closerworks.errors import InvalidBook, InvalidRows
from closerworks.limits import MOST_ROWS, MOST_RULES
from closerworks.lots import check_any_lot, check_family, check_things, family_of, is_lot
from closerworks.lots import lots_by_number, meets_of, number_by_lot, numbers_of


def is_rule(things, value):
    """Tell whether a value is a rule between lots of these things."""
    return isinstance(value, tuple) and len(value) == 2 and is_lot(things, value[0]) and is_lot(things, value[1])


def wrong_rule(things, rules):
    """Tell the index of the first element of a tuple that is wrong in a book; None if there is none."""
    for at, rule in enumerate(rules):
        if at >= MOST_RULES or not is_rule(things, rule):
            return at
    return None


def is_book(things, value):
    """Tell whether a value is a book of rules between lots of these things."""
    return isinstance(value, tuple) and wrong_rule(things, value) is None


def check_book(things, book):
    """Raise an error for what is no book of rules between lots of these things."""
    if not isinstance(book, tuple):
        raise InvalidBook(None)
    wrong = wrong_rule(things, book)
    if wrong is not None:
        raise InvalidBook(wrong)


def check_rows(things, rows):
    """Raise an error for what is no tuple of up to sixty lots of these things."""
    if not isinstance(rows, tuple):
        raise InvalidRows(None)
    for at, row in enumerate(rows):
        if at >= MOST_ROWS or not is_lot(things, row):
            raise InvalidRows(at)


def by_family(things, family):
    """Give the closer whose closed lots are the meets of a family."""
    check_things(things)
    check_family(things, family)
    return Closer(things, meets_of(things, family))


def by_rules(things, book):
    """Give the closer of a book."""
    check_things(things)
    check_book(things, book)
    number = number_by_lot(things)
    kept = list(range(len(lots_by_number(things))))
    for needed, added in book:
        first, then = number[needed], number[added]
        kept = [lot for lot in kept if lot & first != first or lot & then == then]
    return Closer(things, family_of(things, kept))


def by_rows(things, rows):
    """Give the closer of the table with these rows."""
    check_things(things)
    check_rows(things, rows)
    return Closer(things, meets_of(things, rows))


def corners(closer):
    """Tell the family of the corners of a closer."""
    check_closer(closer)
    numbers = numbers_of(closer.things, closer.closed)
    return family_of(closer.things, [number for number in numbers if meet_above(numbers, number) != number])


def meet_above(numbers, number):
    """Tell what is in common to all closed lots around a closed lot other than itself; the lots by their numbers."""
    # The whole has the greatest number, and is what is in common to none.
    meet = max(numbers)
    for other in numbers:
        if other != number and other & number == number:
            meet = meet & other
    return meet


def as_text(lot):
    """Tell the word for a lot in a text."""
    check_any_lot(lot)
    return word_of(lot)
