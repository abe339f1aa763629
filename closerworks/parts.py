"""Parts of the things of a closer: whether they lose something, which rules they keep, and good parts of two kinds."""

from closerworks.books import is_needless, plain_book
from closerworks.closers import check_closer
from closerworks.comparing import kept
from closerworks.keys import in_some_key, keys
from closerworks.lots import check_lot, greatest_of, has_all, in_both, in_either, lots_by_number, without
from closerworks.sheets import agreed, check_parts, noughts


def first_lines(things, parts):
    """Tell the lines with which a trail begins."""
    lines = []
    number = 0
    for part in parts:
        line = ()
        for thing in things:
            if thing not in part:
                number += 1
            line = line + (0 if thing in part else number,)
        lines.append(line)
    return tuple(lines)


def next_step(closer, lines):
    """Tell two indexes of lines that agree on a lot, but not on all of the lot around it, and this lot, or None."""
    for at in range(len(lines)):
        for before in range(at):
            lot = agreed(closer.things, lines[before], lines[at])
            if not closer.is_closed(lot):
                return before, at, lot
    return None


def stepped(closer, lines, step):
    """Tell the lines behind a step: its two lines agree on all of the lot around its lot."""
    before, at, lot = step
    come = without(closer.around(lot), lot)
    for place, thing in enumerate(closer.things):
        if thing in come:
            lines = levelled(lines, place, lines[before][place], lines[at][place])
    return lines


def levelled(lines, place, one, other):
    """Tell the lines with the lesser one of two values at a place wherever the greater one was there."""
    least = min(one, other)
    return tuple([line[:place] + (least if line[place] in (one, other) else line[place],) + line[place + 1:]
                  for line in lines])


def walked(closer, parts):
    """Tell the steps of the trail and the lines at its end, without a look at what was passed."""
    taken = []
    lines = first_lines(closer.things, parts)
    step = next_step(closer, lines)
    while step is not None:
        taken.append(step)
        lines = stepped(closer, lines, step)
        step = next_step(closer, lines)
    return tuple(taken), lines


def trail_of(closer, parts):
    """Tell the lines at the end of the trail, without a look at what was passed."""
    return walked(closer, parts)[1]


def trail(closer, parts):
    """Tell the lines at the end of the trail, in the order of the parts."""
    check_closer(closer)
    check_parts(closer.things, parts)
    return trail_of(closer, parts)


def loses(closer, parts):
    """Tell whether parts lose something."""
    check_closer(closer)
    check_parts(closer.things, parts)
    return noughts(closer.things) not in trail_of(closer, parts)


def losing(closer, parts):
    """Tell a sheet that loses something by the parts, and a line that comes; None if they lose nothing."""
    check_closer(closer)
    check_parts(closer.things, parts)
    lines = trail_of(closer, parts)
    line = noughts(closer.things)
    return None if line in lines else (tuple(sorted(set(lines))), line)


def keeps_within(closer, lot, parts):
    """Tell whether a lot keeps all rules that hold by a closer and lie within a single part."""
    # What the lot has of a part, and all of the part around that, is the rule that asks most.
    return all([has_all(lot, in_both(closer.around(in_both(lot, part)), part)) for part in parts])


def keep_rules(closer, parts):
    """Tell whether parts keep the rules of a closer."""
    check_closer(closer)
    check_parts(closer.things, parts)
    return all([closer.is_closed(lot) for lot in lots_by_number(closer.things) if keeps_within(closer, lot, parts)])


def loose_lot(closer, lot):
    """Tell a lot within a lot that bars the closer from being strict on it; None if it is strict."""
    for part in lots_by_number(lot):
        if in_both(closer.around(part), lot) not in (part, lot):
            return part
    return None


def is_strict(closer, lot):
    """Tell whether a closer is strict on a lot."""
    check_closer(closer)
    check_lot(closer.things, lot)
    return loose_lot(closer, lot) is None


def is_mild(closer, lot):
    """Tell whether a closer is mild on a lot."""
    check_closer(closer)
    check_lot(closer.things, lot)
    if lot == "":
        return True
    # The keys of the closer of what is kept are the least lots within the lot around which all of it is.
    own = kept(closer, lot)
    useful = in_some_key(own)
    return all([own.around(part) == lot or has_all(part + useful, own.around(part)) for part in lots_by_number(lot)])


def strict_parts(closer):
    """Tell parts that lose nothing, on each of which a closer is strict."""
    check_closer(closer)
    found = []
    left = [closer.things]
    while left:
        part = left.pop()
        loose = loose_lot(closer, part)
        if loose is None:
            found.append(part)
        else:
            # All of the first one is in the lot around what both have in common, so that nothing is lost.
            around = in_both(closer.around(loose), part)
            left.extend([around, in_either(loose, without(part, around))])
    return greatest_of(closer.things, found)


def mild_parts(closer):
    """Tell parts that lose nothing and keep the rules, on each of which a closer is mild."""
    check_closer(closer)
    # A rule of a book with nothing needless in it, a reason and its thing, is a part on which the closer is mild; all
    # of them keep the rules, and lose nothing if some part has a key.
    found = [in_either(reason, thing) for reason, thing in trimmed(plain_book(closer))]
    own_keys = keys(closer)
    if not any([has_all(lot, key) for lot in found for key in own_keys]):
        found.append(own_keys[0])
    return greatest_of(closer.things, found)


def trimmed(book):
    """Tell a book with the needless rules taken away, one after another."""
    at = 0
    while at < len(book):
        if is_needless(book, at):
            book = book[:at] + book[at + 1:]
        else:
            at += 1
    return book
