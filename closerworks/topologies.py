"""Closers of topologies: leads, the inner and the rim of lots, the words that come from a lot, and pieces."""

from closerworks.closers import check_closer
from closerworks.errors import InvalidLeads
from closerworks.lots import check_lot, check_things, in_either, is_thing, without
from closerworks.rules import led_on
from closerworks.telling import by_rules


def is_lead(things, value):
    """Tell whether a value is a two-letter string of unlike things."""
    if not isinstance(value, str) or len(value) != 2 or value[0] == value[1]:
        return False
    return is_thing(things, value[0]) and is_thing(things, value[1])


def go_on(some):
    """Tell whether leads go on: with xy and yz also xz, if x and z are unlike."""
    for one in some:
        for other in some:
            if one[1] == other[0] and one[0] != other[1] and one[0] + other[1] not in some:
                return False
    return True


def check_leads(things, some):
    """Raise an error for what is no ascending tuple of leads that go on."""
    if not isinstance(some, tuple):
        raise InvalidLeads(None)
    for at, lead in enumerate(some):
        if not is_lead(things, lead) or (at > 0 and lead <= some[at - 1]):
            raise InvalidLeads(at)
    if not go_on(some):
        raise InvalidLeads(None)


def found_union(closer):
    """Tell what bars a closer from being of a topology, without a look at what was passed."""
    if not closer.is_closed(""):
        return ()
    for at, one in enumerate(closer.closed):
        for other in closer.closed[at + 1:]:
            if not closer.is_closed(in_either(one, other)):
                return one, other
    return None


def is_topology(closer):
    """Tell whether a closer is of a topology."""
    check_closer(closer)
    return found_union(closer) is None


def wrong_union(closer):
    """Tell a pair of closed lots, what is in either one not being closed; () if the empty lot is not; else None."""
    check_closer(closer)
    return found_union(closer)


def leads_of(closer):
    """Tell the leads of a closer, without a look at what was passed."""
    return tuple([one + other for one in closer.things for other in without(closer.around(one), one)])


def leads(closer):
    """Tell the leads of a closer: the strings xy of unlike things with y in the lot around x."""
    check_closer(closer)
    return leads_of(closer)


def by_leads(things, some):
    """Give the closer of a topology with these leads."""
    check_things(things)
    check_leads(things, some)
    return by_rules(things, tuple([(lead[0], lead[1]) for lead in some]))


def inner_of(closer, lot):
    """Tell the inner of a lot, without a look at what was passed."""
    return without(closer.things, closer.around(without(closer.things, lot)))


def inner(closer, lot):
    """Tell the inner of a lot."""
    check_closer(closer)
    check_lot(closer.things, lot)
    return inner_of(closer, lot)


def rim(closer, lot):
    """Tell the rim of a lot."""
    check_closer(closer)
    check_lot(closer.things, lot)
    return without(closer.around(lot), inner_of(closer, lot))


def words(closer, lot):
    """Tell the family of all lots that come from a lot by taking the lot around and taking the rest."""
    check_closer(closer)
    check_lot(closer.things, lot)
    found = [lot]
    at = 0
    while at < len(found):
        word = found[at]
        at += 1
        for other in (closer.around(word), without(closer.things, word)):
            if other not in found:
                found.append(other)
    return tuple(sorted(found))


def pieces(closer):
    """Tell the family of the pieces, by the leads of a closer."""
    check_closer(closer)
    some = leads_of(closer)
    both_ways = [(lead[0], lead[1]) for lead in some] + [(lead[1], lead[0]) for lead in some]
    return tuple(sorted({led_on(both_ways, thing)[1] for thing in closer.things}))
