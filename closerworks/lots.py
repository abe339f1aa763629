"""Lots of things, as ascending strings, and families of lots.

Inside of the package a lot of some things also has a number, in which the k-th bit stands for the k-th thing, so
that many lots can be compared fast.
"""

from closerworks.errors import InvalidFamily, InvalidLot, InvalidThings, UnknownThing
from closerworks.limits import MOST_THINGS


def is_letter(sign):
    """Tell whether a single character is a letter from a to z."""
    return "a" <= sign <= "z"


def is_word(value):
    """Tell whether a value is an ascending string of letters from a to z."""
    if not isinstance(value, str):
        return False
    ahead = ""
    for sign in value:
        if sign <= ahead or not is_letter(sign):
            return False
        ahead = sign
    return True


def is_any_lot(value):
    """Tell whether a value is a lot of some things."""
    return is_word(value) and len(value) <= MOST_THINGS


def is_things(value):
    """Tell whether a value is one to seven things."""
    return is_any_lot(value) and value != ""


def is_lot(things, value):
    """Tell whether a value is a lot of these things."""
    return is_word(value) and has_all(things, value)


def is_thing(things, value):
    """Tell whether a value is one of these things."""
    return is_lot(things, value) and len(value) == 1


def is_number(value, most):
    """Tell whether a value is an integer from 0 to the greatest one that is allowed."""
    return isinstance(value, int) and not isinstance(value, bool) and 0 <= value <= most


def check_any_lot(lot):
    """Raise an error for what is no lot of any things."""
    if not is_any_lot(lot):
        raise InvalidLot(lot)


def check_things(things):
    """Raise an error for what are no things."""
    if not is_things(things):
        raise InvalidThings(things)


def check_lot(things, lot):
    """Raise an error for what is no lot of these things."""
    if not is_lot(things, lot):
        raise InvalidLot(lot)


def check_thing(things, thing):
    """Raise an error for what is none of these things."""
    if not is_thing(things, thing):
        raise UnknownThing(thing)


def is_family(things, value):
    """Tell whether a value is a family of lots of these things."""
    return isinstance(value, tuple) and first_wrong(things, value) is None


def check_family(things, family):
    """Raise an error for what is no family of lots of these things."""
    if not isinstance(family, tuple):
        raise InvalidFamily(None)
    wrong = first_wrong(things, family)
    if wrong is not None:
        raise InvalidFamily(wrong)


def first_wrong(things, values):
    """Tell the index of the first value that is no lot, or not greater than the one ahead; None if there is none."""
    for at, value in enumerate(values):
        if not is_lot(things, value) or (at > 0 and value <= values[at - 1]):
            return at
    return None


def has_all(lot, part):
    """Tell whether all letters of the second lot are in the first one."""
    return all([letter in lot for letter in part])


def in_both(one, other):
    """Tell what two lots have in common."""
    return "".join([letter for letter in one if letter in other])


def in_either(one, other):
    """Tell what is in either one of two lots."""
    return "".join(sorted(set(one + other)))


def without(lot, part):
    """Tell what is in the first lot and not in the second one."""
    return "".join([letter for letter in lot if letter not in part])


def lots_by_number(things):
    """Tell the list of all lots, each at its number."""
    lots = [""]
    for letter in things:
        lots = lots + [lot + letter for lot in lots]
    return lots


def number_by_lot(things):
    """Tell the number of each lot, as a dict."""
    return {lot: number for number, lot in enumerate(lots_by_number(things))}


def numbers_of(things, lots):
    """Tell the list of the numbers of some lots."""
    number = number_by_lot(things)
    return [number[lot] for lot in lots]


def family_of(things, numbers):
    """Tell the family of the lots with these numbers."""
    lots = lots_by_number(things)
    return tuple(sorted([lots[number] for number in numbers]))


def least_numbers(numbers):
    """Tell the numbers of the lots within which no other one lies."""
    return [lot for lot in numbers if not any([part != lot and part & lot == part for part in numbers])]


def greatest_numbers(numbers):
    """Tell the numbers of the lots that lie within no other one."""
    return [lot for lot in numbers if not any([more != lot and more & lot == lot for more in numbers])]


def least_of(things, lots):
    """Tell the family of the least ones of lots of these things, which may be in any order, and alike."""
    return family_of(things, least_numbers(numbers_of(things, sorted(set(lots)))))


def greatest_of(things, lots):
    """Tell the family of the greatest ones of lots of these things, which may be in any order, and alike."""
    return family_of(things, greatest_numbers(numbers_of(things, sorted(set(lots)))))


def meets_of(things, lots):
    """Tell the family of the meets of lots of these things, which may be in any order, and alike."""
    whole = len(lots_by_number(things)) - 1
    found = {whole: True}
    for number in numbers_of(things, lots):
        for other in list(found):
            found[number & other] = True
    return family_of(things, list(found))


def unions_of(things, lots):
    """Tell the family of the unions of lots of these things, which may be in any order, and alike."""
    found = {0: True}
    for number in numbers_of(things, lots):
        for other in list(found):
            found[number | other] = True
    return family_of(things, list(found))


def common(one, other):
    """Tell what two lots have in common."""
    check_any_lot(one)
    check_any_lot(other)
    return in_both(one, other)


def either(one, other):
    """Tell what is in either one of two lots."""
    check_any_lot(one)
    check_any_lot(other)
    return in_either(one, other)


def is_within(one, other):
    """Tell whether the first lot is within the other one."""
    check_any_lot(one)
    check_any_lot(other)
    return has_all(other, one)


def rest(things, lot):
    """Tell the things that are not in a lot."""
    check_things(things)
    check_lot(things, lot)
    return without(things, lot)


def all_lots(things):
    """Tell the family of all lots."""
    check_things(things)
    return tuple(sorted(lots_by_number(things)))


def least_ones(things, family):
    """Tell the family of the least lots of a family."""
    check_things(things)
    check_family(things, family)
    return least_of(things, family)


def greatest_ones(things, family):
    """Tell the family of the greatest lots of a family."""
    check_things(things)
    check_family(things, family)
    return greatest_of(things, family)


def meets(things, family):
    """Tell the family of the meets of a family."""
    check_things(things)
    check_family(things, family)
    return meets_of(things, family)


def unions(things, family):
    """Tell the family of the unions of a family."""
    check_things(things)
    check_family(things, family)
    return unions_of(things, family)


def hitting(things, family):
    """Tell the family of the least lots that hit a family."""
    check_things(things)
    check_family(things, family)
    numbers = numbers_of(things, family)
    hits = [lot for lot in range(len(lots_by_number(things))) if all([lot & number for number in numbers])]
    return family_of(things, least_numbers(hits))
