"""Desks: closers under names, with promises that hold behind each change, and logs of the changes."""

from closerworks.benches import Trial
from closerworks.books import stem_of
from closerworks.closers import Closer, check_closer
from closerworks.comparing import is_finer
from closerworks.errors import Broken, InUse, InvalidLog, InvalidName, InvalidNumber, InvalidWish, NotPossible
from closerworks.errors import NothingToUndo, UnknownName, WrongName, WrongValue
from closerworks.keys import keys
from closerworks.kinds import is_kind_word, is_of_kind
from closerworks.lots import is_letter, is_lot, is_number, is_word
from closerworks.parts import is_strict
from closerworks.rules import holds

LONGEST_NAME = 8
# How many words of letters stand behind the first word of a wish about lots.
LOTS_TOLD = {"holds": 2, "breaks": 2, "closed": 1, "key": 1, "strict": 1}
COUNTED = ("many", "few", "stem")
# How many values a change in a log has, its word among them.
CHANGES = {"put": 3, "drop": 2, "promise": 2, "lift": 2}


class Stand:
    """How a desk stands behind a change: closers by their names, promises, and the change; it never changes."""

    def __init__(self, closers, vows, change):
        self._closers = closers
        self._vows = vows
        self._change = change


class Desk:
    """Closers under names, and promises that all hold."""

    def __init__(self):
        # All stands from the first one to the one now; a tuple, so that a trial can keep it as it was.
        self._stands = (Stand({}, (), None),)

    def __len__(self):
        return len(self._stands[-1]._closers)

    def __bool__(self):
        # Without it a desk of no name would be false by its length.
        return True

    @property
    def names(self):
        """Tell the names, ascending."""
        return tuple(sorted(self._stands[-1]._closers))

    @property
    def promises(self):
        """Tell the promises."""
        return self._stands[-1]._vows

    @property
    def changes(self):
        """Tell how many changes can be taken back."""
        return len(self._stands) - 1

    @property
    def log(self):
        """Tell the changes that have not been taken back."""
        return tuple([stand._change for stand in self._stands[1:]])

    def put(self, name, closer):
        """Put a closer under a name, also in the place of another one."""
        if not is_name(name):
            raise InvalidName(name)
        check_closer(closer)
        closers = dict(self._stands[-1]._closers)
        closers[name] = closer
        broken = first_broken_vow(closers, self.promises)
        if broken is not None:
            raise Broken(broken)
        self._become(Stand(closers, self.promises, ("put", name, str(closer))))

    def named(self, name):
        """Tell the closer with a name."""
        check_known(self.names, name)
        return self._stands[-1]._closers[name]

    def drop(self, name):
        """Take a name away."""
        check_known(self.names, name)
        for at, vow in enumerate(self.promises):
            if name in names_of(vow):
                raise InUse(at)
        closers = dict(self._stands[-1]._closers)
        del closers[name]
        self._become(Stand(closers, self.promises, ("drop", name)))

    def promise(self, wish):
        """Add a promise behind the others."""
        if not is_vow(wish):
            raise InvalidWish(wish)
        for name in names_of(wish):
            check_known(self.names, name)
        closers = self._stands[-1]._closers
        if not is_kept(closers, wish):
            raise Broken(len(self.promises))
        self._become(Stand(closers, self.promises + (wish,), ("promise", wish)))

    def lift(self, index):
        """Take a promise away."""
        vows = self.promises
        if not is_number(index, len(vows) - 1):
            raise InvalidNumber(index)
        self._become(Stand(self._stands[-1]._closers, vows[:index] + vows[index + 1:], ("lift", index)))

    def _become(self, stand):
        """Let another stand follow the one now."""
        self._stands = self._stands + (stand,)

    def undo(self):
        """Take back the last change that has not been taken back."""
        if self.changes == 0:
            raise NothingToUndo()
        self._stands = self._stands[:-1]

    def trial(self):
        """Give a trial for a `with` statement."""
        return Trial(self)

    def tried(self, action):
        """Call a function with the desk within a trial, and return what it returns."""
        with self.trial():
            return action(self)


def is_name(value):
    """Tell whether a value is a string of one to eight letters from a to z."""
    return isinstance(value, str) and 0 < len(value) <= LONGEST_NAME and all([is_letter(sign) for sign in value])


def check_known(names, name):
    """Raise an error for what is none of these names, whatever it is."""
    if not isinstance(name, str) or name not in names:
        raise UnknownName(name)


def is_count(value):
    """Tell whether a value is an integer from 0 on."""
    return isinstance(value, int) and not isinstance(value, bool) and value >= 0


def is_wish(value):
    """Tell whether a value is a wish for a closer."""
    if not isinstance(value, tuple) or len(value) == 0 or not isinstance(value[0], str):
        return False
    word, told = value[0], value[1:]
    if is_kind_word(word):
        return len(told) == 0
    if word in COUNTED:
        return len(told) == 1 and is_count(told[0])
    return word in LOTS_TOLD and len(told) == LOTS_TOLD[word] and all([is_word(lot) for lot in told])


def is_finer_vow(value):
    """Tell whether a tuple of three values says of two names that a closer is finer than another one."""
    return isinstance(value[0], str) and value[0] == "finer" and can_be_name(value[1]) and can_be_name(value[2])


def can_be_name(value):
    """Tell whether a value can stand in a promise in the place of a name."""
    return not isinstance(value, (list, dict))


def is_vow(value):
    """Tell whether a value is a promise, the names being any values but no lists or dicts."""
    if not isinstance(value, tuple):
        return False
    if len(value) == 2:
        return can_be_name(value[0]) and is_wish(value[1])
    return len(value) == 3 and is_finer_vow(value)


def names_of(vow):
    """Tell the names that a promise has."""
    return vow[:1] if len(vow) == 2 else vow[1:]


def is_kept(closers, vow):
    """Tell whether a promise holds, the closers being told by their names."""
    if len(vow) == 2:
        return is_granted(closers[vow[0]], vow[1])
    one, other = closers[vow[1]], closers[vow[2]]
    return one.things == other.things and is_finer(one, other)


def first_broken_vow(closers, vows):
    """Tell the index of the first promise that does not hold; None if all hold."""
    for at, vow in enumerate(vows):
        if not is_kept(closers, vow):
            return at
    return None


def is_granted(closer, wish):
    """Tell whether a wish for a closer is so."""
    word, told = wish[0], wish[1:]
    if is_kind_word(word):
        return is_of_kind(closer, word)
    if word in COUNTED:
        return is_counted(closer, word, told[0])
    return all([is_lot(closer.things, lot) for lot in told]) and is_said(closer, word, told)


def is_counted(closer, word, number):
    """Tell whether a closer has as many closed lots or rules of its stem as a wish asks for."""
    if word == "many":
        return len(closer) >= number
    if word == "few":
        return len(closer) <= number
    return len(stem_of(closer)) <= number


def is_said(closer, word, told):
    """Tell whether a wish about lots of a closer's things is so."""
    if word == "holds":
        return holds(closer, told)
    if word == "breaks":
        return not holds(closer, told)
    if word == "closed":
        return closer.is_closed(told[0])
    if word == "key":
        return told[0] in keys(closer)
    return is_strict(closer, told[0])


def is_change(value):
    """Tell whether a value is a tuple as a log has it, whatever stands behind its word."""
    if not isinstance(value, tuple) or len(value) == 0 or not isinstance(value[0], str):
        return False
    return value[0] in CHANGES and len(value) == CHANGES[value[0]]


def redo(desk, change):
    """Do a change of a log at a desk."""
    word = change[0]
    if word == "put":
        desk.put(change[1], Closer.read(change[2]))
    elif word == "drop":
        desk.drop(change[1])
    elif word == "promise":
        desk.promise(change[1])
    else:
        desk.lift(change[1])


def played(log):
    """Give the desk to which the changes of a log lead."""
    if not isinstance(log, tuple):
        raise InvalidLog(None)
    desk = Desk()
    for at, change in enumerate(log):
        if not is_change(change):
            raise InvalidLog(at)
        try:
            redo(desk, change)
        except (WrongValue, WrongName, NotPossible):
            raise InvalidLog(at) from None
    return desk
