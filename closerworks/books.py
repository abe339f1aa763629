"""Books of a closer: the stem, no book having fewer rules, the plain book, and the needless rules of a book."""

from closerworks.closers import check_closer
from closerworks.lots import check_thing, check_things, least_of, lots_by_number
from closerworks.rules import first_broken, keeps, led_on
from closerworks.telling import by_rules, check_book


def stem_of(closer):
    """Tell the stem of a closer, without a look at what was passed."""
    found = []
    # A lot within another one has the lesser number, so the stops come from the least ones up. A lot that keeps the
    # rules of the stops so far has the lots around all stops within it.
    for lot in lots_by_number(closer.things):
        if not closer.is_closed(lot) and first_broken(found, lot) is None:
            found.append((lot, closer.around(lot)))
    return tuple(sorted(found))


def stops(closer):
    """Tell the family of the stops of a closer."""
    check_closer(closer)
    return tuple([rule[0] for rule in stem_of(closer)])


def stem(closer):
    """Tell the stem of a closer."""
    check_closer(closer)
    return stem_of(closer)


def is_of(closer, book):
    """Tell whether a book is of a closer."""
    check_closer(closer)
    check_book(closer.things, book)
    return by_rules(closer.things, book) == closer


def is_needless(book, at):
    """Tell whether the rule at an index follows from the other rules of a book."""
    others = book[:at] + book[at + 1:]
    return keeps(led_on(others, book[at][0])[1], book[at])


def needless(things, book):
    """Tell the indexes of the rules each of which follows from the book without it alone."""
    check_things(things)
    check_book(things, book)
    return tuple([at for at in range(len(book)) if is_needless(book, at)])


def reasons_of(closer, thing):
    """Tell the family of the reasons of a thing, without a look at what was passed."""
    lots = [lot for lot in lots_by_number(closer.things) if thing not in lot and thing in closer.around(lot)]
    return least_of(closer.things, lots)


def reasons(closer, thing):
    """Tell the family of the reasons of a thing for a closer."""
    check_closer(closer)
    check_thing(closer.things, thing)
    return reasons_of(closer, thing)


def plain_book(closer):
    """Tell the plain book of a closer: the rules of all things and their reasons."""
    check_closer(closer)
    return tuple(sorted([(reason, thing) for thing in closer.things for reason in reasons_of(closer, thing)]))
