"""Sheets of lines of values: the rules that they keep, and how they are cut into parts and put together again."""

from closerworks.closers import Closer, check_closer
from closerworks.errors import InvalidParts, InvalidSheet, InvalidSheets, TooMany
from closerworks.limits import MOST_LINES, MOST_PARTS, MOST_VALUE
from closerworks.lots import check_things, has_all, in_both, is_lot, is_number, meets_of, without
from closerworks.rules import check_rule, keeps
from closerworks.telling import corners


def is_line(things, value):
    """Tell whether a value is a line for these things."""
    if not isinstance(value, tuple) or len(value) != len(things):
        return False
    return all([is_number(one, MOST_VALUE) for one in value])


def wrong_line(things, lines):
    """Tell the index of the first element of a tuple that is wrong in a sheet; None if there is none."""
    for at, line in enumerate(lines):
        if at >= MOST_LINES or not is_line(things, line) or (at > 0 and line <= lines[at - 1]):
            return at
    return None


def is_sheet(things, value):
    """Tell whether a value is a sheet for these things."""
    return isinstance(value, tuple) and wrong_line(things, value) is None


def check_sheet(things, sheet):
    """Raise an error for what is no sheet for these things."""
    if not isinstance(sheet, tuple):
        raise InvalidSheet(None)
    wrong = wrong_line(things, sheet)
    if wrong is not None:
        raise InvalidSheet(wrong)


def is_part_behind(things, value, ahead):
    """Tell whether a value can be a part behind those that are ahead of it."""
    if not is_lot(things, value) or value == "":
        return False
    return all([part < value and not has_all(part, value) and not has_all(value, part) for part in ahead])


def wrong_part(things, parts):
    """Tell the index of the first element of a tuple that is wrong in parts, their number if a thing is in none."""
    for at, part in enumerate(parts):
        if at >= MOST_PARTS or not is_part_behind(things, part, parts[:at]):
            return at
    return None if has_all("".join(parts), things) else len(parts)


def are_parts(things, value):
    """Tell whether a value are parts of these things."""
    return isinstance(value, tuple) and wrong_part(things, value) is None


def check_parts(things, parts):
    """Raise an error for what are no parts of these things."""
    if not isinstance(parts, tuple):
        raise InvalidParts(None)
    wrong = wrong_part(things, parts)
    if wrong is not None:
        raise InvalidParts(wrong)


def check_sheets(sheets, parts):
    """Raise an error for what has not one sheet for each part."""
    # With another number of them it is not told which sheet is for which part.
    if not isinstance(sheets, tuple) or len(sheets) != len(parts):
        raise InvalidSheets(None)
    for at, part in enumerate(parts):
        if not is_sheet(part, sheets[at]):
            raise InvalidSheets(at)


def agreed(things, one, other):
    """Tell the lot on which two lines agree."""
    return "".join([thing for at, thing in enumerate(things) if one[at] == other[at]])


def agreeing_of(things, sheet):
    """Tell the family of the lots on which two unlike lines agree, without a look at what was passed."""
    return tuple(sorted({agreed(things, one, sheet[at]) for at in range(len(sheet)) for one in sheet[:at]}))


def sheet_keeps(things, sheet, rule):
    """Tell whether a sheet keeps a rule."""
    check_things(things)
    check_sheet(things, sheet)
    check_rule(things, rule)
    return all([keeps(lot, rule) for lot in agreeing_of(things, sheet)])


def agreeing(things, sheet):
    """Tell the family of all lots on which two unlike lines of a sheet agree."""
    check_things(things)
    check_sheet(things, sheet)
    return agreeing_of(things, sheet)


def by_sheet(things, sheet):
    """Give the closer of a sheet."""
    check_things(things)
    check_sheet(things, sheet)
    return Closer(things, meets_of(things, agreeing_of(things, sheet)))


def noughts(things):
    """Tell the line with 0 for each thing."""
    return tuple([0 for _ in things])


def sheet_of(closer):
    """Tell a sheet of a closer: a line of noughts, and for the k-th corner one with k for what is not in it."""
    check_closer(closer)
    lines = [noughts(closer.things)]
    for at, corner in enumerate(corners(closer)):
        lines.append(tuple([0 if thing in corner else at + 1 for thing in closer.things]))
    return tuple(sorted(lines))


def line_on(things, line, part):
    """Tell what a line has for the things of a part."""
    return tuple([line[at] for at, thing in enumerate(things) if thing in part])


def cut(things, sheet, parts):
    """Tell the tuple of the sheets of all parts."""
    check_things(things)
    check_sheet(things, sheet)
    check_parts(things, parts)
    return tuple([tuple(sorted({line_on(things, line, part) for line in sheet})) for part in parts])


def together(things, sheets, parts):
    """Tell the sheet of all lines that come when the sheets of all parts are put together."""
    check_things(things)
    check_parts(things, parts)
    check_sheets(sheets, parts)
    pieces = tuple([(part, sheets[at]) for at, part in enumerate(parts)])
    counts = {}
    many = count_lines(pieces, counts)
    if many > MOST_LINES:
        raise TooMany(many)
    return tuple(put_together(things, pieces, counts))


# Put together, few short sheets can have very many lines, the number of which has to be told all the same. So lines
# are counted without being made: pieces, pairs of a lot and a tuple of lines for it, are counted one value of one
# thing after another, by themselves where they share nothing, and each tuple of pieces only once.


def count_lines(pieces, counts):
    """Tell how many lines agree with some line of each piece; `counts` keeps what has been counted."""
    if pieces == ():
        return 1
    if pieces not in counts:
        counts[pieces] = counted(pieces, counts)
    return counts[pieces]


def counted(pieces, counts):
    """Count the lines of pieces, one at the least, that have not been counted."""
    if len(pieces) == 1:
        return len(pieces[0][1])
    near, far = linked(pieces)
    if far != ():
        return count_lines(near, counts) * count_lines(far, counts)
    thing = most_shared(pieces)
    return sum([count_lines(chosen(pieces, thing, value), counts) for value in values_of(pieces, thing)])


def linked(pieces):
    """Tell the pieces that share things with the first one, directly or through others, and those that do not."""
    held = ""
    more = pieces[0][0]
    while not has_all(held, more):
        held = held + more
        more = "".join([piece[0] for piece in pieces if in_both(piece[0], held) != ""])
    near = tuple([piece for piece in pieces if has_all(held, piece[0])])
    return near, tuple([piece for piece in pieces if not has_all(held, piece[0])])


def most_shared(pieces):
    """Tell the first one of the things that are in most pieces."""
    joined = "".join([lot for lot, _ in pieces])
    most = max([joined.count(thing) for thing in joined])
    return [thing for thing in joined if joined.count(thing) == most][0]


def values_of(pieces, thing):
    """Tell the values that a thing has in each piece that has it, ascending."""
    held = [[line[lot.index(thing)] for line in lines] for lot, lines in pieces if thing in lot]
    return [value for value in sorted(set(held[0])) if all([value in values for values in held])]


def chosen(pieces, thing, value):
    """Tell the pieces without a thing, with only those of their lines that had this value for it."""
    found = {}
    for lot, lines in pieces:
        left = without(lot, thing)
        kept = with_value(lot, lines, thing, value)
        # Pieces for the same lot have just those lines together that each one has.
        found[left] = tuple([line for line in found.get(left, kept) if line in kept])
    return tuple([(lot, found[lot]) for lot in sorted(found) if lot != ""])


def with_value(lot, lines, thing, value):
    """Tell the lines that have a value for a thing, without it; all of them as they are if the lot has it not."""
    if thing not in lot:
        return lines
    at = lot.index(thing)
    return tuple([line[:at] + line[at + 1:] for line in lines if line[at] == value])


def put_together(things, pieces, counts):
    """Tell the list of the lines that agree with some line of each piece, ascending."""
    if things == "":
        return [()]
    found = []
    for value in values_of(pieces, things[0]):
        left = chosen(pieces, things[0], value)
        if count_lines(left, counts) > 0:
            found.extend([(value,) + line for line in put_together(things[1:], left, counts)])
    return found
