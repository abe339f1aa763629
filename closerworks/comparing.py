"""Closers compared with one another, and made from one another."""

from closerworks.closers import Closer, check_closer, is_system
from closerworks.errors import InvalidLetters, OtherThings, TooFew, TooMany
from closerworks.limits import MOST_LISTED
from closerworks.lots import check_lot, check_things, has_all, in_both, is_letter, lots_by_number, meets_of, without


def check_alike(one, other):
    """Raise an error for what are no two closers with the same things."""
    check_closer(one)
    check_closer(other)
    if one.things != other.things:
        raise OtherThings(other.things)


def is_finer(one, other):
    """Tell whether the first closer is finer than the other one, or equal to it."""
    check_alike(one, other)
    return all([lot in one.closed for lot in other.closed])


def shared(one, other):
    """Give the closer whose closed lots are those that are closed by both."""
    check_alike(one, other)
    return Closer(one.things, tuple([lot for lot in one.closed if lot in other.closed]))


def mixed(one, other):
    """Give the closer whose closed lots are the meets of those of both."""
    check_alike(one, other)
    return Closer(one.things, meets_of(one.things, one.closed + other.closed))


def kept(closer, lot):
    """Give the closer of the things of a lot, with what the closed lots have in common with it."""
    check_closer(closer)
    check_lot(closer.things, lot)
    if lot == "":
        raise TooFew(0)
    return Closer(lot, tuple(sorted(set([in_both(closed, lot) for closed in closer.closed]))))


def shut(closer, lot):
    """Give the closer of all other things, with the closed lots around a lot, without this lot."""
    check_closer(closer)
    check_lot(closer.things, lot)
    if lot == closer.things:
        raise TooFew(0)
    closed = [without(around, lot) for around in closer.closed if has_all(around, lot)]
    return Closer(without(closer.things, lot), tuple(sorted(closed)))


def renamed(closer, letters):
    """Give the closer that has, in the order of the things, these letters for them."""
    check_closer(closer)
    if not are_letters(letters, len(closer.things)):
        raise InvalidLetters(letters)
    new = {thing: letters[at] for at, thing in enumerate(closer.things)}
    closed = [rewritten(lot, new) for lot in closer.closed]
    return Closer(rewritten(closer.things, new), tuple(sorted(closed)))


def are_letters(value, many):
    """Tell whether a value is a string of so many unlike letters from a to z."""
    if not isinstance(value, str) or len(value) != many:
        return False
    return all([is_letter(sign) for sign in value]) and len(set(value)) == many


def rewritten(lot, new):
    """Tell the lot of the new letters of a lot's things."""
    return "".join(sorted([new[thing] for thing in lot]))


def all_closers(things):
    """Give the tuple of all closers of up to three things, ascending by their closed lots."""
    check_things(things)
    if len(things) > MOST_LISTED:
        raise TooMany(len(things))
    return tuple([Closer(things, closed) for closed in all_systems(things)])


def all_systems(things):
    """Tell the list of all families with the whole and all their meets, ascending."""
    families = [(things,)]
    for lot in lots_by_number(things):
        if lot != things:
            families = families + [family + (lot,) for family in families]
    ordered = [tuple(sorted(family)) for family in families]
    return sorted([family for family in ordered if is_system(things, family)])
