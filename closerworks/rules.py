"""Rules: what holds by a closer, and what follows from a book."""

from closerworks.closers import check_closer
from closerworks.errors import InvalidRule
from closerworks.lots import check_lot, check_things, has_all, in_either
from closerworks.telling import check_book, is_rule


def check_rule(things, rule):
    """Raise an error for what is no rule between lots of these things."""
    if not is_rule(things, rule):
        raise InvalidRule(rule)


def keeps(lot, rule):
    """Tell whether a lot keeps a rule."""
    needed, added = rule
    return not has_all(lot, needed) or has_all(lot, added)


def first_broken(book, lot):
    """Tell the index of the first rule of a book that a lot does not keep; None if it keeps all."""
    for at, rule in enumerate(book):
        if not keeps(lot, rule):
            return at
    return None


def led_on(book, lot):
    """Tell the pair of the indexes of the rules used from a lot on, and of the lot that comes in the end."""
    used = []
    come = lot
    broken = first_broken(book, come)
    while broken is not None:
        used.append(broken)
        come = in_either(come, book[broken][1])
        broken = first_broken(book, come)
    return tuple(used), come


def holds(closer, rule):
    """Tell whether a rule holds by a closer."""
    check_closer(closer)
    check_rule(closer.things, rule)
    # What is closed around IF lies around the lot around IF, so this one alone shows it.
    return keeps(closer.around(rule[0]), rule)


def breaker(closer, rule):
    """Tell a closed lot that does not keep a rule; None if the rule holds."""
    check_closer(closer)
    check_rule(closer.things, rule)
    least = closer.around(rule[0])
    return None if keeps(least, rule) else least


def around_by(things, book, lot):
    """Tell the lot around a lot by the closer of a book."""
    check_things(things)
    check_book(things, book)
    check_lot(things, lot)
    return led_on(book, lot)[1]


def steps(things, book, lot):
    """Tell the indexes of the rules used from a lot on, each time the first one that is not kept."""
    check_things(things)
    check_book(things, book)
    check_lot(things, lot)
    return led_on(book, lot)[0]


def follows(things, book, rule):
    """Tell whether a rule follows from a book."""
    check_things(things)
    check_book(things, book)
    check_rule(things, rule)
    return keeps(led_on(book, rule[0])[1], rule)


def bar(things, book, rule):
    """Tell a lot that keeps a book and not a rule; None if the rule follows."""
    check_things(things)
    check_book(things, book)
    check_rule(things, rule)
    least = led_on(book, rule[0])[1]
    return None if keeps(least, rule) else least
