"""Peels of convex closers, the closer of rows, and the fewest rows of a closer."""

from closerworks.closers import Closer, check_closer
from closerworks.convex import found_swap
from closerworks.errors import InvalidNumber, InvalidRows, Swapped
from closerworks.limits import MOST_ROWS
from closerworks.lots import check_things, has_all, is_number, least_of, meets_of, without
from closerworks.telling import corners


def check_convex(closer):
    """Raise an error for a closer that is not convex."""
    bars = found_swap(closer)
    if bars is not None:
        raise Swapped(bars)


def is_row(things, value):
    """Tell whether a value is a string of all things, each once."""
    return isinstance(value, str) and "".join(sorted(value)) == things


def wrong_row(things, rows):
    """Tell the index of the first element of a tuple that is wrong in rows; None if there is none."""
    for at, row in enumerate(rows):
        if at >= MOST_ROWS or not is_row(things, row):
            return at
    return None


def are_rows(things, value):
    """Tell whether a value is a tuple of rows, one at the least."""
    return isinstance(value, tuple) and len(value) > 0 and wrong_row(things, value) is None


def check_row_strings(things, rows):
    """Raise an error for what is no tuple of rows, one at the least."""
    if not isinstance(rows, tuple) or len(rows) == 0:
        raise InvalidRows(None)
    wrong = wrong_row(things, rows)
    if wrong is not None:
        raise InvalidRows(wrong)


def tails(row):
    """Tell the list of the tails of a row."""
    return ["".join(sorted(row[at:])) for at in range(len(row) + 1)]


def keeps_tails(closer, row):
    """Tell whether all tails of a row are closed."""
    return all([closer.is_closed(tail) for tail in tails(row)])


def next_taken(closer, lot):
    """Tell the list of the things each of which can be taken from a closed lot so that a closed one is left."""
    return [thing for thing in lot if closer.is_closed(without(lot, thing))]


def peels_of(closer):
    """Tell the list of the peels of a convex closer, ascending, without a look at what was passed."""
    found = [""]
    for _ in closer.things:
        found = [taken + thing for taken in found for thing in next_taken(closer, without(closer.things, taken))]
    return found


def number_of_peels(closer):
    """Tell how many peels a convex closer has, without a look at what was passed."""
    counts = {"": 1}
    for lot in sorted(closer.closed, key=len):
        if lot != "":
            counts[lot] = sum([counts[without(lot, thing)] for thing in next_taken(closer, lot)])
    return counts[closer.things]


def peels(closer):
    """Tell the tuple of all peels, ascending."""
    check_closer(closer)
    check_convex(closer)
    return tuple(peels_of(closer))


def count_peels(closer):
    """Tell how many peels there are."""
    check_closer(closer)
    check_convex(closer)
    return number_of_peels(closer)


def peel_at(closer, number):
    """Tell the peel with this index."""
    check_closer(closer)
    check_convex(closer)
    if not is_number(number, number_of_peels(closer) - 1):
        raise InvalidNumber(number)
    return peels_of(closer)[number]


def is_peel(closer, row):
    """Tell whether any value is a peel."""
    check_closer(closer)
    check_convex(closer)
    return is_row(closer.things, row) and keeps_tails(closer, row)


def by_peels(things, rows):
    """Give the closer of rows."""
    check_things(things)
    check_row_strings(things, rows)
    return Closer(things, meets_of(things, [tail for row in rows for tail in tails(row)]))


# Corners within one another can stand in one row. So corners are put into the fewest chains: each one is put right
# below a greater one, as many as can be, no two below the same one, and each chain begins with one that is below none.


def put_below(lots, lot, below, seen):
    """Put a lot right below a greater one, others elsewhere where this helps; tell whether it stands below one."""
    for greater in lots:
        if greater != lot and has_all(greater, lot) and greater not in seen:
            seen[greater] = True
            if greater not in below or put_below(lots, below[greater], below, seen):
                below[greater] = lot
                return True
    return False


def all_below(lots):
    """Tell for greater lots the lot that is put right below each one, as a dict."""
    below = {}
    for lot in lots:
        put_below(lots, lot, below, {})
    return below


def starts(lots, below):
    """Tell the list of the lots that are put below none."""
    placed = list(below.values())
    return [lot for lot in lots if lot not in placed]


def chain_from(start, below):
    """Tell the list of the lots of a chain from its greatest one on."""
    chain = [start]
    while chain[-1] in below:
        chain.append(below[chain[-1]])
    return chain


def row_through(closer, chain):
    """Tell a peel that has all lots of a chain, told from the greatest one on, among its tails."""
    row = ""
    for lot in chain + [""]:
        left = without(closer.things, row)
        while left != lot:
            # From a closed lot around another one some thing can be taken that is not in the other one.
            row = row + without("".join(next_taken(closer, left)), lot)[0]
            left = without(closer.things, row)
    return row


def fewest_rows_of(closer):
    """Tell the fewest rows of a convex closer, ascending, without a look at what was passed."""
    lots = corners(closer)
    below = all_below(lots)
    return tuple(sorted([row_through(closer, chain_from(start, below)) for start in starts(lots, below)]))


def can_begin(lots, below):
    """Tell the list of the lots with which a chain begins, or can begin, there being as many chains."""
    found = starts(lots, below)
    at = 0
    while at < len(found):
        # What is put right below a greater lot can give way to the lot that is looked at, and begin a chain itself.
        freed = [below[lot] for lot in lots if lot != found[at] and has_all(lot, found[at])]
        found.extend([lot for lot in freed if lot not in found])
        at += 1
    return found


def most_apart(closer):
    """Tell a family of as many corners as there are rows, none within another one, of a convex closer."""
    lots = corners(closer)
    # Of each chain just one is among the least ones of those with which a chain can begin.
    return least_of(closer.things, can_begin(lots, all_below(lots)))


def fewest_rows(closer):
    """Tell the least number of rows of which a closer is the closer."""
    check_closer(closer)
    check_convex(closer)
    return len(fewest_rows_of(closer))


def some_rows(closer):
    """Tell the fewest rows of which a closer is the closer."""
    check_closer(closer)
    check_convex(closer)
    return fewest_rows_of(closer)


def side_by_side(closer):
    """Tell a family of as many corners as the least number of rows, none within another one."""
    check_closer(closer)
    check_convex(closer)
    return most_apart(closer)
