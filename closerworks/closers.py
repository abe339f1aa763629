"""Closers, told by their closed lots."""

from closerworks.errors import InvalidClosed, InvalidText, NotACloser
from closerworks.lots import check_lot, check_things, first_wrong, has_all, is_things, lots_by_number, meets_of


class Closer:
    """Tells for each lot of some things the least closed lot around it; it never changes."""

    def __init__(self, things, closed):
        check_things(things)
        check_closed(things, closed)
        self._things = things
        self._closed = closed
        self._around = lots_around(things, closed)

    @classmethod
    def read(cls, text):
        """Give the closer with this text."""
        if not isinstance(text, str):
            raise InvalidText(text)
        things, *words = text.split(" ")
        closed = tuple([lot_of(word) for word in words])
        # Two spaces side by side leave an empty word, which would be taken for the empty lot.
        if "" in words or not is_things(things) or not is_system(things, closed):
            raise InvalidText(text)
        return cls(things, closed)

    @property
    def things(self):
        """Tell the things."""
        return self._things

    @property
    def closed(self):
        """Tell the family of the closed lots."""
        return self._closed

    def __str__(self):
        return " ".join([self._things] + [word_of(lot) for lot in self._closed])

    def __len__(self):
        return len(self._closed)

    def __eq__(self, other):
        return isinstance(other, Closer) and self._things == other._things and self._closed == other._closed

    def around(self, lot):
        """Tell the lot around a lot."""
        check_lot(self._things, lot)
        return self._around[lot]

    def is_closed(self, lot):
        """Tell whether a lot is closed."""
        check_lot(self._things, lot)
        return self._around[lot] == lot


def check_closed(things, closed):
    """Raise an error for what is no family with the whole and all its meets."""
    if not isinstance(closed, tuple):
        raise InvalidClosed(None)
    wrong = first_wrong(things, closed)
    if wrong is not None:
        raise InvalidClosed(wrong)
    if not is_system(things, closed):
        raise InvalidClosed(None)


def check_closer(closer):
    """Raise an error for what is no closer."""
    if not isinstance(closer, Closer):
        raise NotACloser(closer)


def is_system(things, values):
    """Tell whether a tuple is a family with the whole and all its meets."""
    return first_wrong(things, values) is None and meets_of(things, values) == values


def lots_around(things, closed):
    """Tell the lot around each lot, as a dict."""
    # Among the closed lots around a lot the least one has fewer things than all others.
    by_size = sorted(closed, key=len)
    return {lot: first_around(by_size, lot) for lot in lots_by_number(things)}


def first_around(lots, part):
    """Tell the first one of some lots, one of which is the whole, that has all of a lot."""
    at = 0
    while not has_all(lots[at], part):
        at += 1
    return lots[at]


def word_of(lot):
    """Tell the word for a lot in a text."""
    return lot or "-"


def lot_of(word):
    """Tell the lot that a word in a text stands for."""
    return "" if word == "-" else word
