"""Closers with exchange: what bars it, free lots, bases, rings, ranks and mirrors; and heavy bases of any closer."""

from closerworks.closers import Closer, check_closer
from closerworks.errors import Barred, InvalidBases, InvalidWeights
from closerworks.limits import MOST_WEIGHT
from closerworks.lots import check_family, check_lot, check_things, greatest_of, in_both, in_either, least_of
from closerworks.lots import lots_by_number, without


def found_bar(closer):
    """Tell a triple that bars exchange, or None, without a look at what was passed."""
    for lot in closer.closed:
        for one in without(closer.things, lot):
            for other in without(closer.around(in_either(lot, one)), lot):
                if one not in closer.around(in_either(lot, other)):
                    return lot, one, other
    return None


def check_exchange(closer):
    """Raise an error for a closer without exchange."""
    bars = found_bar(closer)
    if bars is not None:
        raise Barred(bars)


def has_exchange(closer):
    """Tell whether a closer has exchange."""
    check_closer(closer)
    return found_bar(closer) is None


def barring(closer):
    """Tell a triple that bars exchange; None if the closer has it."""
    check_closer(closer)
    return found_bar(closer)


def is_free_lot(closer, lot):
    """Tell whether a lot is free, without a look at what was passed."""
    return all([thing not in closer.around(without(lot, thing)) for thing in lot])


def is_free(closer, lot):
    """Tell whether each thing of a lot is an end of it."""
    check_closer(closer)
    check_lot(closer.things, lot)
    return is_free_lot(closer, lot)


def bases_of(closer, lot):
    """Tell the family of the bases of a lot, without a look at what was passed."""
    return greatest_of(closer.things, [part for part in lots_by_number(lot) if is_free_lot(closer, part)])


def bases(closer, lot):
    """Tell the family of the bases of a lot: the greatest free lots within it."""
    check_closer(closer)
    check_lot(closer.things, lot)
    return bases_of(closer, lot)


def rings(closer):
    """Tell the family of the rings: the least lots that are not free."""
    check_closer(closer)
    return least_of(closer.things, [lot for lot in lots_by_number(closer.things) if not is_free_lot(closer, lot)])


def rank(closer, lot):
    """Tell the rank of a lot: the number of things of each of its bases."""
    check_closer(closer)
    check_lot(closer.things, lot)
    check_exchange(closer)
    return len(bases_of(closer, lot)[0])


def mirror(closer):
    """Give the mirror: the closer with exchange whose bases of the whole are the rests of those of this one."""
    check_closer(closer)
    check_exchange(closer)
    return with_bases(closer.things, [without(closer.things, base) for base in bases_of(closer, closer.things)])


def with_bases(things, lots):
    """Give the closer with exchange whose bases of the whole these lots are."""
    ranks = {lot: max([len(in_both(base, lot)) for base in lots]) for lot in lots_by_number(things)}
    return Closer(things, tuple(sorted([lot for lot in ranks if is_full(things, ranks, lot)])))


def is_full(things, ranks, lot):
    """Tell whether each thing more brings a lot to a greater rank, the ranks of all lots being told."""
    return all([ranks[in_either(lot, thing)] > ranks[lot] for thing in without(things, lot)])


def can_give(family, one, thing, come):
    """Tell whether one of some things can stand in a lot in the place of a thing of it, so that it is in a family."""
    return any([in_either(without(one, thing), other) in family for other in come])


def can_trade(family, one, other):
    """Tell whether for each thing of the first lot alone one of the other lot alone can stand."""
    come = without(other, one)
    return all([can_give(family, one, thing, come) for thing in without(one, other)])


def are_bases(family):
    """Tell whether a family is that of the bases of the whole by a closer with exchange."""
    # The families of bases are just those, not empty, of which any two lots can trade (Whitney).
    return len(family) > 0 and all([can_trade(family, one, other) for one in family for other in family])


def by_bases(things, family):
    """Give the closer with exchange whose bases of the whole are a family."""
    check_things(things)
    check_family(things, family)
    if not are_bases(family):
        raise InvalidBases(None)
    return with_bases(things, family)


def is_weight(value):
    """Tell whether a value is a weight."""
    return isinstance(value, int) and not isinstance(value, bool) and -MOST_WEIGHT <= value <= MOST_WEIGHT


def check_weights(things, weights):
    """Raise an error for what is no tuple of weights, one for each thing."""
    if not isinstance(weights, tuple):
        raise InvalidWeights(None)
    for at, weight in enumerate(weights):
        if at >= len(things) or not is_weight(weight):
            raise InvalidWeights(at)
    if len(weights) < len(things):
        raise InvalidWeights(len(weights))


def heaviest_first(things, weights):
    """Tell the list of the things from the heaviest on, of equally heavy ones the earlier letter first."""
    return [thing for _, thing in sorted([(-weights[at], thing) for at, thing in enumerate(things)])]


def greedy(closer, weights):
    """Tell the greedy base of the whole."""
    check_closer(closer)
    check_weights(closer.things, weights)
    taken = ""
    for thing in heaviest_first(closer.things, weights):
        more = in_either(taken, thing)
        if is_free_lot(closer, more):
            taken = more
    return taken


def weight_of(things, weights, lot):
    """Tell the weight of a lot."""
    return sum([weights[at] for at, thing in enumerate(things) if thing in lot])


def heaviest(closer, weights):
    """Tell the pair of the greatest weight of a base of the whole, and the first base with it."""
    check_closer(closer)
    check_weights(closer.things, weights)
    found = bases_of(closer, closer.things)
    heavy = [weight_of(closer.things, weights, base) for base in found]
    most = max(heavy)
    return most, found[heavy.index(most)]
