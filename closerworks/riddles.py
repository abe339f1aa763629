"""Riddles: hidden closers of which some answers are known, and what can be told of them."""

from closerworks.closers import check_closer
from closerworks.comparing import all_closers
from closerworks.errors import InvalidAnswers, InvalidNumber, NoFit, NotARiddle, OtherThings, TooMany, UnknownThing
from closerworks.limits import MOST_ANSWERS
from closerworks.lots import check_lot, check_things, has_all, in_either, is_lot, is_thing, lots_by_number, without
from closerworks.rules import led_on
from closerworks.telling import by_rules


class Riddle:
    """Things, and answers to what is in the lot around what by a hidden closer; it never changes."""

    def __init__(self, things, answers):
        check_things(things)
        check_answers(things, answers)
        self._things = things
        self._answers = answers

    @property
    def things(self):
        """Tell the things."""
        return self._things

    @property
    def answers(self):
        """Tell the answers."""
        return self._answers

    def __eq__(self, other):
        return isinstance(other, Riddle) and self._things == other._things and self._answers == other._answers

    def answered(self, lot, thing, is_in):
        """Give the riddle with one answer more, behind the others."""
        check_lot(self._things, lot)
        check_asked(self._things, lot, thing)
        if not isinstance(is_in, bool):
            raise InvalidNumber(is_in)
        if len(self._answers) >= MOST_ANSWERS:
            raise TooMany(len(self._answers) + 1)
        return Riddle(self._things, self._answers + ((lot, thing, is_in),))


def is_asked(things, lot, thing):
    """Tell whether a value is a thing that is not in a lot of these things."""
    return is_thing(things, thing) and thing not in lot


def check_asked(things, lot, thing):
    """Raise an error for what is none of these things, or is in the lot."""
    if not is_asked(things, lot, thing):
        raise UnknownThing(thing)


def is_answer(things, value):
    """Tell whether a value is an answer about these things."""
    if not isinstance(value, tuple) or len(value) != 3:
        return False
    lot, thing, is_in = value
    return is_lot(things, lot) and is_asked(things, lot, thing) and isinstance(is_in, bool)


def wrong_answer(things, answers):
    """Tell the index of the first element of a tuple that is wrong in answers; None if there is none."""
    for at, answer in enumerate(answers):
        if at >= MOST_ANSWERS or not is_answer(things, answer):
            return at
    return None


def are_answers(things, value):
    """Tell whether a value is a tuple of answers about these things."""
    return isinstance(value, tuple) and wrong_answer(things, value) is None


def check_answers(things, answers):
    """Raise an error for what is no tuple of answers about these things."""
    if not isinstance(answers, tuple):
        raise InvalidAnswers(None)
    wrong = wrong_answer(things, answers)
    if wrong is not None:
        raise InvalidAnswers(wrong)


def check_riddle(riddle):
    """Raise an error for what is no riddle."""
    if not isinstance(riddle, Riddle):
        raise NotARiddle(riddle)


def book_of(answers):
    """Tell the book of a riddle with these answers."""
    return tuple([(lot, thing) for lot, thing, is_in in answers if is_in])


def denied(answers):
    """Tell the list of the pairs of the lot and the thing of each answer with False."""
    return [(lot, thing) for lot, thing, is_in in answers if not is_in]


def agrees(closer, answers):
    """Tell whether all answers are so by a closer."""
    return all([(thing in closer.around(lot)) == is_in for lot, thing, is_in in answers])


def is_possible(answers):
    """Tell whether some closer fits these answers."""
    book = book_of(answers)
    return all([thing not in led_on(book, lot)[1] for lot, thing in denied(answers)])


def check_possible(riddle):
    """Raise an error for a riddle that no closer fits."""
    if not is_possible(riddle.answers):
        raise NoFit()


def finest(riddle):
    """Give the closer of the riddle's book, without a look at what was passed."""
    return by_rules(riddle.things, book_of(riddle.answers))


def fits(riddle, closer):
    """Tell whether a closer with the same things fits."""
    check_riddle(riddle)
    check_closer(closer)
    if riddle.things != closer.things:
        raise OtherThings(closer.things)
    return agrees(closer, riddle.answers)


def some_fit(riddle):
    """Tell whether some closer fits."""
    check_riddle(riddle)
    return is_possible(riddle.answers)


def finest_fit(riddle):
    """Give the closer of the riddle's book, the finest one that fits."""
    check_riddle(riddle)
    check_possible(riddle)
    return finest(riddle)


def is_out(closer, answers, lot, thing):
    """Tell whether no closer fits any more if a thing is in the lot around a lot; the closer is the finest one."""
    for known, other in denied(answers):
        around = closer.around(known)
        # The rule from the lot to the thing is used once at the most, and then no rule of the book is left unkept.
        if has_all(around, lot) and other in closer.around(in_either(around, thing)):
            return True
    return False


def told_of(closer, answers, lot, thing):
    """Tell what is sure of a lot and a thing, the closer being the finest one that fits."""
    if thing in closer.around(lot):
        return "in"
    return "out" if is_out(closer, answers, lot, thing) else "open"


def sure(riddle, lot, thing):
    """Tell whether a thing is surely in the lot around a lot, surely out of it, or whether both are open."""
    check_riddle(riddle)
    check_lot(riddle.things, lot)
    check_asked(riddle.things, lot, thing)
    check_possible(riddle)
    return told_of(finest(riddle), riddle.answers, lot, thing)


def count_fits(riddle):
    """Tell how many closers fit a riddle of up to three things."""
    check_riddle(riddle)
    return len([closer for closer in all_closers(riddle.things) if agrees(closer, riddle.answers)])


def still_open(riddle):
    """Tell the pairs of a lot and a thing not in it that are open, ascending."""
    check_riddle(riddle)
    check_possible(riddle)
    things, answers = riddle.things, riddle.answers
    closer = finest(riddle)
    pairs = [(lot, thing) for lot in lots_by_number(things) for thing in without(things, lot)]
    return tuple(sorted([pair for pair in pairs if told_of(closer, answers, pair[0], pair[1]) == "open"]))


def tuples_of(numbers):
    """Tell the list of all tuples of some of these numbers, in their order."""
    found = [()]
    for number in numbers:
        found = found + [some + (number,) for some in found]
    return found


def against(answers, left_out):
    """Tell the indexes of the answers with False that are not so by the book without some answers with True."""
    book = book_of([answer for at, answer in enumerate(answers) if at not in left_out])
    return tuple([at for at, (lot, thing, is_in) in enumerate(answers)
                  if not is_in and thing in led_on(book, lot)[1]])


def is_needed(wrong, some):
    """Tell whether with each one of some answers brought back other answers are wrong than without all of them."""
    return all([wrong[some[:at] + some[at + 1:]] != wrong[some] for at in range(len(some))])


def wrong_answers(riddle):
    """Tell the least tuples of indexes of answers without which some closer fits, by their lengths, then as tuples."""
    check_riddle(riddle)
    answers = riddle.answers
    believed = [at for at, answer in enumerate(answers) if answer[2]]
    # Without some answers with True just those with False have to go that are then still wrong.
    wrong = {some: against(answers, some) for some in tuples_of(believed)}
    found = [tuple(sorted(some + wrong[some])) for some in wrong if is_needed(wrong, some)]
    return tuple(sorted(sorted(found), key=len))
