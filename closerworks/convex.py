"""Convex closers: swaps, by which a closer is not convex, ends of lots, and things that can be added alone."""

from closerworks.closers import check_closer
from closerworks.lots import check_lot, in_either, without


def swapped_with(closer, lot, one):
    """Tell the things that stand beside a closed lot and a thing not in it in a swap."""
    come = without(closer.around(in_either(lot, one)), in_either(lot, one))
    return [other for other in come if one in closer.around(in_either(lot, other))]


def found_swap(closer):
    """Tell what bars a closer from being convex, without a look at what was passed."""
    if not closer.is_closed(""):
        return ()
    for lot in closer.closed:
        for one in without(closer.things, lot):
            others = swapped_with(closer, lot, one)
            if others:
                return lot, one, others[0]
    return None


def is_convex(closer):
    """Tell whether a closer is convex."""
    check_closer(closer)
    return found_swap(closer) is None


def swap(closer):
    """Tell a swap; () if the empty lot is not closed; None if the closer is convex."""
    check_closer(closer)
    return found_swap(closer)


def ends(closer, lot):
    """Tell the lot of the ends of a lot."""
    check_closer(closer)
    check_lot(closer.things, lot)
    return "".join([thing for thing in lot if thing not in closer.around(without(lot, thing))])


def more_by_one(closer, lot):
    """Tell the lot of the things each of which makes the lot around a lot a closed lot with one thing more."""
    check_closer(closer)
    check_lot(closer.things, lot)
    around = closer.around(lot)
    return "".join([thing for thing in without(closer.things, around) if closer.is_closed(in_either(around, thing))])
