"""Consoles: benches by lines."""

from closerworks.benches import Bench
from closerworks.books import reasons, stem, stops
from closerworks.closers import lot_of, word_of
from closerworks.convex import ends
from closerworks.errors import InvalidCommand
from closerworks.exchange import bases, rank, rings
from closerworks.keys import keys, seeds, tops
from closerworks.kinds import is_kind_word, is_of_kind
from closerworks.limits import MOST_THINGS
from closerworks.lots import is_letter
from closerworks.orders import count_chains, roots
from closerworks.peels import count_peels, fewest_rows
from closerworks.rules import holds
from closerworks.telling import corners
from closerworks.topologies import inner, leads, pieces, rim, words

# For each command what stands behind its word: L for a lot, X for a single letter.
FORMS = {
    "add": "LL", "close": "L", "keep": "L", "shut": "L", "undo": "",
    "around": "L", "ends": "L", "inner": "L", "rim": "L",
    "closed": "", "corners": "", "keys": "", "tops": "", "stops": "", "roots": "", "pieces": "", "rings": "",
    "seeds": "L", "bases": "L", "words": "L", "reasons": "X",
    "stem": "", "leads": "", "holds": "LL",
    "modular": "", "distributive": "", "topology": "", "convex": "", "exchange": "",
    "chains": "", "peels": "", "rows": "", "rank": "L",
}


class Console:
    """A bench by lines."""

    def __init__(self, closer):
        self._bench = Bench(closer)

    @property
    def bench(self):
        """Tell the bench."""
        return self._bench

    def say(self, command):
        """Do a command, and tell the answer."""
        if not is_command(command):
            raise InvalidCommand(command)
        word, *told = command.split(" ")
        # A dash stands for the empty lot; a single letter is that letter.
        values = [lot_of(one) for one in told]
        if word in ("add", "close", "keep", "shut", "undo"):
            do_at(self._bench, word, values)
            return "ok"
        return answer_of(self._bench.now, word, values)


def is_lot_word(text):
    """Tell whether a text stands for a lot in a command."""
    return text == "-" or (0 < len(text) <= MOST_THINGS and all([is_letter(sign) for sign in text]))


def is_in_form(text, form):
    """Tell whether a text can stand in a command where a form asks for a lot or a single letter."""
    return is_lot_word(text) if form == "L" else len(text) == 1 and is_letter(text)


def is_command(value):
    """Tell whether a value is a command."""
    if not isinstance(value, str):
        return False
    word, *told = value.split(" ")
    if word not in FORMS or len(told) != len(FORMS[word]):
        return False
    return all([is_in_form(told[at], form) for at, form in enumerate(FORMS[word])])


def do_at(bench, word, values):
    """Do a command that changes a bench."""
    if word == "add":
        bench.add((values[0], values[1]))
    elif word == "close":
        bench.close(values[0])
    elif word == "keep":
        bench.keep(values[0])
    elif word == "shut":
        bench.shut(values[0])
    else:
        bench.undo()


def answer_of(closer, word, values):
    """Tell the answer to a command that asks."""
    if is_kind_word(word):
        return yes_or_no(is_of_kind(closer, word))
    if word == "holds":
        return yes_or_no(holds(closer, (values[0], values[1])))
    if word == "stem":
        return joined([word_of(needed) + ">" + word_of(added) for needed, added in stem(closer)])
    if word == "leads":
        return joined(leads(closer))
    if word in ("around", "ends", "inner", "rim"):
        return word_of(lot_for(closer, word, values[0]))
    if word in ("chains", "peels", "rows", "rank"):
        return str(number_for(closer, word, values))
    return joined([word_of(lot) for lot in family_for(closer, word, values)])


def yes_or_no(value):
    """Tell the word for what is so or not."""
    return "yes" if value else "no"


def joined(texts):
    """Tell texts with spaces between, or that there is none."""
    return " ".join(texts) if len(texts) > 0 else "none"


def lot_for(closer, word, lot):
    """Tell the lot for which a command asks."""
    if word == "around":
        return closer.around(lot)
    asked = {"ends": ends, "inner": inner, "rim": rim}
    action = asked[word]
    return action(closer, lot)


def number_for(closer, word, values):
    """Tell the number for which a command asks."""
    if word == "rank":
        return rank(closer, values[0])
    asked = {"chains": count_chains, "peels": count_peels, "rows": fewest_rows}
    action = asked[word]
    return action(closer)


def family_for(closer, word, values):
    """Tell the family for which a command asks."""
    if word == "closed":
        return closer.closed
    if len(values) == 1:
        behind = {"seeds": seeds, "bases": bases, "words": words, "reasons": reasons}
        action = behind[word]
        return action(closer, values[0])
    asked = {"corners": corners, "keys": keys, "tops": tops, "stops": stops, "roots": roots, "pieces": pieces,
             "rings": rings}
    question = asked[word]
    return question(closer)
