"""Keys of a closer, the tops that its keys are not within, and seeds of lots."""

from closerworks.closers import check_closer
from closerworks.lots import check_lot, greatest_of, least_of, lots_by_number, without


def seeds_of(closer, lot):
    """Tell the family of the seeds of a lot, without a look at what was passed."""
    around = closer.around(lot)
    return least_of(closer.things, [part for part in lots_by_number(closer.things) if closer.around(part) == around])


def keys(closer):
    """Tell the family of the keys of a closer."""
    check_closer(closer)
    return seeds_of(closer, closer.things)


def tops(closer):
    """Tell the family of the greatest closed lots other than the whole."""
    check_closer(closer)
    return greatest_of(closer.things, [lot for lot in closer.closed if lot != closer.things])


def seeds(closer, lot):
    """Tell the family of the least lots around which is the same lot as around a lot."""
    check_closer(closer)
    check_lot(closer.things, lot)
    return seeds_of(closer, lot)


def in_all_keys(closer):
    """Tell the lot of the things that are in all keys."""
    check_closer(closer)
    things = closer.things
    return "".join([thing for thing in things if thing not in closer.around(without(things, thing))])


def in_some_key(closer):
    """Tell the lot of the things that are in some key."""
    check_closer(closer)
    found = seeds_of(closer, closer.things)
    return "".join([thing for thing in closer.things if any([thing in key for key in found])])
