"""Tables of marks: what rows share, who owns marks, concepts and arrows."""

from closerworks.closers import check_closer
from closerworks.errors import InvalidNumbers, NotATable
from closerworks.lots import check_lot, check_things, has_all, in_both, is_number
from closerworks.telling import by_rows, check_rows, corners


class Table:
    """Things, called marks, and rows, each one the lot of the marks that it has; it never changes."""

    def __init__(self, things, rows):
        check_things(things)
        check_rows(things, rows)
        self._things = things
        self._rows = rows

    @property
    def things(self):
        """Tell the marks."""
        return self._things

    @property
    def rows(self):
        """Tell the rows."""
        return self._rows

    def __len__(self):
        return len(self._rows)

    def __bool__(self):
        # Without it a table of no row would be false by its length.
        return True

    def __eq__(self, other):
        return isinstance(other, Table) and self._things == other._things and self._rows == other._rows


def check_table(table):
    """Raise an error for what is no table."""
    if not isinstance(table, Table):
        raise NotATable(table)


def check_numbers(table, numbers):
    """Raise an error for what is no ascending tuple of indexes of rows."""
    if not isinstance(numbers, tuple):
        raise InvalidNumbers(None)
    for at, number in enumerate(numbers):
        if not is_number(number, len(table.rows) - 1) or (at > 0 and number <= numbers[at - 1]):
            raise InvalidNumbers(at)


def shared_by(table, numbers):
    """Tell the marks that all rows with these indexes have, without a look at what was passed."""
    found = table.things
    for number in numbers:
        found = in_both(found, table.rows[number])
    return found


def owners_of(table, lot):
    """Tell the indexes of the rows that have all of a lot, without a look at what was passed."""
    return tuple([at for at, row in enumerate(table.rows) if has_all(row, lot)])


def shared_marks(table, numbers):
    """Tell the marks that all rows with these indexes have."""
    check_table(table)
    check_numbers(table, numbers)
    return shared_by(table, numbers)


def owners(table, lot):
    """Tell the indexes of the rows that have all of a lot."""
    check_table(table)
    check_lot(table.things, lot)
    return owners_of(table, lot)


def concepts(table):
    """Tell all concepts of a table, ascending by their lots."""
    check_table(table)
    return tuple([(owners_of(table, lot), lot) for lot in by_rows(table.things, table.rows).closed])


def closer_of(table):
    """Give the closer of a table."""
    check_table(table)
    return by_rows(table.things, table.rows)


def wanting(table):
    """Tell the list of the pairs of the index of a row and a mark that it has not, ascending."""
    return [(at, mark) for at, row in enumerate(table.rows) for mark in table.things if mark not in row]


def leads_down(table, at, mark):
    """Tell whether each row that has all marks of a row and more has a mark."""
    row = table.rows[at]
    return all([mark in other for other in table.rows if has_all(other, row) and other != row])


def leads_up(table, at, mark):
    """Tell whether a row has each mark whose owners are all owners of a mark and more."""
    held = owners_of(table, mark)
    wider = [other for other in table.things if is_more(owners_of(table, other), held)]
    return has_all(table.rows[at], wider)


def is_more(numbers, held):
    """Tell whether some indexes have all of some other ones among them, and more."""
    return len(numbers) > len(held) and all([number in numbers for number in held])


def arrows_down(table):
    """Tell the pairs of the index of a row and a mark with an arrow down."""
    check_table(table)
    return tuple([(at, mark) for at, mark in wanting(table) if leads_down(table, at, mark)])


def arrows_up(table):
    """Tell the pairs of the index of a row and a mark with an arrow up."""
    check_table(table)
    return tuple([(at, mark) for at, mark in wanting(table) if leads_up(table, at, mark)])


def least_table(closer):
    """Give the table whose rows are the corners of a closer."""
    check_closer(closer)
    return Table(closer.things, corners(closer))
