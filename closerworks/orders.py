"""The order of closed lots: what is right below what, chains, spans and roots, and what kind of order it is."""

from closerworks.closers import check_closer
from closerworks.errors import InvalidLot
from closerworks.lots import check_lot, has_all, in_both, in_either, least_of, without


def check_closed_lot(closer, lot):
    """Raise an error for what is no closed lot of a closer."""
    # What is no lot of the things raises this error where it is asked for.
    if not closer.is_closed(lot):
        raise InvalidLot(lot)


def spanned(closer, one, other):
    """Tell the span of two closed lots, without a look at what was passed."""
    return closer.around(in_either(one, other))


def right_above(closer):
    """Tell for each closed lot the closed lots that it is right below, as a dict, ascending by their sizes."""
    above = {}
    for lot in sorted(closer.closed, key=len):
        # Each greater closed lot has the lot around this one with some thing more within it.
        wider = [closer.around(in_either(lot, thing)) for thing in without(closer.things, lot)]
        above[lot] = least_of(closer.things, wider)
    return above


def pairs_below(closer):
    """Tell the pairs of closed lots, the first one right below the second one, without a look at what was passed."""
    above = right_above(closer)
    return tuple([(lot, other) for lot in closer.closed for other in above[lot]])


def right_below(closer):
    """Tell the pairs of closed lots, the first one right below the second one, ascending."""
    check_closer(closer)
    return pairs_below(closer)


def count_chains(closer):
    """Tell how many chains there are."""
    check_closer(closer)
    counts = {}
    for lot, above in reversed(list(right_above(closer).items())):
        # From the whole one chain leads on: that of itself alone.
        counts[lot] = sum([counts[other] for other in above]) if above else 1
    return counts[closer.around("")]


def height(closer, lot):
    """Tell how many steps the longest row has from the least closed lot to the lot around a lot."""
    check_closer(closer)
    check_lot(closer.things, lot)
    steps_to = {closed: 0 for closed in closer.closed}
    for closed, above in right_above(closer).items():
        for other in above:
            steps_to[other] = max(steps_to[other], steps_to[closed] + 1)
    return steps_to[closer.around(lot)]


def span(closer, one, other):
    """Tell the span of two closed lots."""
    check_closer(closer)
    check_closed_lot(closer, one)
    check_closed_lot(closer, other)
    return spanned(closer, one, other)


def roots_of(closer):
    """Tell the family of the roots, without a look at what was passed."""
    # With two closed lots right below it a lot is their span; with one alone all lesser ones are within that one.
    reached = [pair[1] for pair in pairs_below(closer)]
    return tuple([lot for lot in closer.closed if reached.count(lot) == 1])


def roots(closer):
    """Tell the family of the roots of a closer."""
    check_closer(closer)
    return roots_of(closer)


def count_sets(closer):
    """Tell how many sets of roots have with each root all roots within it, without a look at what was passed."""
    found = [()]
    ahead = []
    for root in sorted(roots_of(closer), key=len):
        within = [other for other in ahead if has_all(root, other)]
        found = found + [held + (root,) for held in found if all([other in held for other in within])]
        ahead.append(root)
    return len(found)


def count_down(closer):
    """Tell how many sets of roots hold with each root all roots within it."""
    check_closer(closer)
    return count_sets(closer)


def is_modular(closer):
    """Tell whether the order of the closed lots is modular."""
    check_closer(closer)
    return found_pentagon(closer) is None


def is_distributive(closer):
    """Tell whether the order of the closed lots is distributive."""
    check_closer(closer)
    # If it is not, there are fewer closed lots than such sets.
    return len(closer) == count_sets(closer)


def is_half_modular(closer):
    """Tell whether the order of the closed lots is half-modular."""
    check_closer(closer)
    below = {pair: True for pair in pairs_below(closer)}
    for one in closer.closed:
        for other in closer.closed:
            if (in_both(one, other), one) in below and (other, spanned(closer, one, other)) not in below:
                return False
    return True


def alike_beside(closer, lot):
    """Tell lists of the closed lots that have the same in common with a closed lot, and the same span with it."""
    found = {}
    for other in closer.closed:
        place = (in_both(other, lot), spanned(closer, other, lot))
        found.setdefault(place, []).append(other)
    return list(found.values())


def found_pentagon(closer):
    """Tell a pentagon, or None, without a look at what was passed."""
    for middle in closer.closed:
        for alike in alike_beside(closer, middle):
            for low in alike:
                wider = [other for other in alike if other != low and has_all(other, low)]
                if wider:
                    return low, middle, wider[0]
    return None


def pentagon(closer):
    """Tell a pentagon; None if there is none."""
    check_closer(closer)
    return found_pentagon(closer)


def diamond(closer):
    """Tell a diamond; None if there is none."""
    check_closer(closer)
    for one in closer.closed:
        for alike in alike_beside(closer, one):
            for other in alike:
                for third in alike:
                    if one < other < third and is_diamond(closer, one, other, third):
                        return one, other, third
    return None


def is_diamond(closer, one, other, third):
    """Tell whether three closed lots, two of them alike beside the first one, are a diamond."""
    same = in_both(one, other) == in_both(other, third)
    return same and spanned(closer, one, other) == spanned(closer, other, third)
