"""Certificates: pairs of a claim and a paper that the checker accepts."""

from closerworks.books import stem_of
from closerworks.closers import check_closer
from closerworks.comparing import check_alike, is_finer
from closerworks.convex import found_swap
from closerworks.errors import InvalidText
from closerworks.exchange import bases_of, found_bar
from closerworks.keys import keys, tops
from closerworks.kinds import is_kind_word, is_of_kind
from closerworks.lots import all_lots, check_lot, check_things
from closerworks.orders import diamond, found_pentagon, right_above
from closerworks.parts import walked
from closerworks.peels import check_convex, fewest_rows_of, most_apart, tails
from closerworks.riddles import book_of, check_asked, check_possible, check_riddle, finest, fits, told_of
from closerworks.rules import check_rule, first_broken, keeps, led_on
from closerworks.sheets import check_parts, noughts
from closerworks.telling import by_rules, check_book, corners
from closerworks.topologies import found_union


def certify_follows(things, book, rule):
    """Certify that a rule follows from a book, or what bars it."""
    check_things(things)
    check_book(things, book)
    check_rule(things, rule)
    used, come = led_on(book, rule[0])
    if keeps(come, rule):
        return ("follows", things, book, rule[0], rule[1]), used
    return ("bars", things, book, rule[0], rule[1]), come


def certify_of(closer, book):
    """Certify that a book is of a closer; None if it is not."""
    check_closer(closer)
    check_book(closer.things, book)
    if by_rules(closer.things, book) != closer:
        return None
    lots = [lot for lot in all_lots(closer.things) if not closer.is_closed(lot)]
    return ("of", str(closer), book), tuple([first_broken(book, lot) for lot in lots])


def certify_stem(closer):
    """Certify the stem of a closer."""
    check_closer(closer)
    return ("stem", str(closer), stem_of(closer)), ()


def certify_least(closer):
    """Certify that no book of a closer has fewer rules than its stem."""
    check_closer(closer)
    found = tuple([stop for stop, _ in stem_of(closer)])
    return ("least", str(closer), len(found)), found


def certify_keys(closer):
    """Certify the keys of a closer."""
    check_closer(closer)
    return ("keys", str(closer), keys(closer)), tops(closer)


def meet_at(closer, lots):
    """Tell the pair of the indexes of two closed lots that are right above the same one."""
    return closer.closed.index(lots[0]), closer.closed.index(lots[1])


def certify_corners(closer):
    """Certify the corners of a closer."""
    check_closer(closer)
    found = corners(closer)
    above = right_above(closer)
    others = [lot for lot in closer.closed if lot not in found and lot != closer.things]
    # What is right below two closed lots is all that they have in common.
    return ("corners", str(closer), found), tuple([meet_at(closer, above[lot]) for lot in others])


def certify_parts(closer, parts):
    """Certify that parts lose nothing, or what they lose."""
    check_closer(closer)
    check_parts(closer.things, parts)
    taken, lines = walked(closer, parts)
    line = noughts(closer.things)
    if line in lines:
        return ("no loss", str(closer), parts), taken
    return ("loss", str(closer), parts), (tuple(sorted(set(lines))), line)


def why_not(closer, word):
    """Tell what bars a closer from being of a kind that it is not of."""
    if word == "modular":
        return found_pentagon(closer)
    if word == "distributive":
        return found_pentagon(closer) or diamond(closer)
    if word == "topology":
        return found_union(closer)
    if word == "convex":
        return found_swap(closer)
    return found_bar(closer)


def certify_kind(closer, word):
    """Certify that a closer is of a kind, or what bars it."""
    check_closer(closer)
    if not is_kind_word(word):
        raise InvalidText(word)
    if not is_of_kind(closer, word):
        return ("no " + word, str(closer)), why_not(closer, word)
    paper = bases_of(closer, closer.things) if word == "exchange" else ()
    return (word, str(closer)), paper


def row_with(rows, corner):
    """Tell the index of the first row of which a corner is a tail."""
    return [at for at, row in enumerate(rows) if corner in tails(row)][0]


def certify_rows(closer):
    """Certify the fewest rows of which a closer is the closer."""
    check_closer(closer)
    check_convex(closer)
    rows = fewest_rows_of(closer)
    return ("rows", str(closer), rows), tuple([row_with(rows, corner) for corner in corners(closer)])


def certify_most(closer):
    """Certify that no fewer rows will do."""
    check_closer(closer)
    check_convex(closer)
    found = most_apart(closer)
    return ("most rows", str(closer), len(found)), found


def certify_fit(riddle, closer):
    """Certify that a closer fits; None if it does not."""
    if not fits(riddle, closer):
        return None
    return ("fits", str(closer), riddle.answers), ()


def certify_open(riddle, lot, thing):
    """Certify that both are possible of a lot and a thing; None if one of them is sure."""
    check_riddle(riddle)
    check_lot(riddle.things, lot)
    check_asked(riddle.things, lot, thing)
    check_possible(riddle)
    things, answers = riddle.things, riddle.answers
    if told_of(finest(riddle), answers, lot, thing) != "open":
        return None
    having = by_rules(things, book_of(answers) + ((lot, thing),))
    return ("open", things, answers, lot, thing), (str(having), str(finest(riddle)))


def certify_none(riddle):
    """Certify that no closer fits; None if some closer does."""
    check_riddle(riddle)
    answers = riddle.answers
    believed = [at for at, answer in enumerate(answers) if answer[2]]
    for at, (lot, thing, is_in) in enumerate(answers):
        used, come = led_on(book_of(answers), lot)
        if not is_in and thing in come:
            return ("none", riddle.things, answers), (at, tuple([believed[k] for k in used]))
    return None


def certify_finer(one, other):
    """Certify that a closer is finer than another one, or what bars it."""
    check_alike(one, other)
    if is_finer(one, other):
        return ("finer", str(one), str(other)), ()
    lots = [lot for lot in other.closed if not one.is_closed(lot)]
    return ("not finer", str(one), str(other)), lots[0]
