"""The checker: whether a paper shows a claim. Both may be any values, whoever wrote them; nothing is taken on trust."""

from closerworks.books import stem_of
from closerworks.closers import Closer
from closerworks.comparing import is_finer
from closerworks.errors import InvalidText
from closerworks.exchange import bases_of
from closerworks.keys import keys, tops
from closerworks.kinds import is_kind_word, is_of_kind
from closerworks.lots import all_lots, has_all, in_both, in_either, is_family, is_lot, is_number, is_thing, is_things
from closerworks.orders import spanned
from closerworks.parts import first_lines, stepped
from closerworks.peels import are_rows, keeps_tails, tails
from closerworks.riddles import agrees, are_answers
from closerworks.rules import first_broken, keeps
from closerworks.sheets import agreed, agreeing_of, are_parts, is_line, is_sheet, line_on, noughts
from closerworks.telling import corners, is_book, is_rule


def closer_with(text):
    """Tell the closer with a text; None for what is no text of a closer."""
    try:
        return Closer.read(text)
    except InvalidText:
        return None


def is_tuple_of(value, many):
    """Tell whether a value is a tuple of so many values."""
    return isinstance(value, tuple) and len(value) == many


def are_indexes(value, many):
    """Tell whether a value is a tuple of indexes of so many values, in any order, and alike."""
    return isinstance(value, tuple) and all([is_number(at, many - 1) for at in value])


def is_count(value, many):
    """Tell whether a value is this integer."""
    return is_number(value, many) and value == many


def is_same_family(things, value, family):
    """Tell whether a value is this family."""
    return is_family(things, value) and value == family


def are_closed(closer, value, many):
    """Tell whether a value is a tuple of so many closed lots."""
    return is_tuple_of(value, many) and all([is_lot(closer.things, lot) and closer.is_closed(lot) for lot in value])


def are_apart(lots):
    """Tell whether no one of some lots is within another one."""
    return not any([one != other and has_all(other, one) for one in lots for other in lots])


def leads_on(book, rule, paper):
    """Tell whether indexes of rules of a book lead from the IF of a rule to its THEN."""
    if not are_indexes(paper, len(book)):
        return False
    come = rule[0]
    for at in paper:
        if not has_all(come, book[at][0]):
            return False
        come = in_either(come, book[at][1])
    return has_all(come, rule[1])


def shows_bars(book, rule, paper):
    """Tell whether a lot of the things bars a rule from following from a book."""
    return first_broken(book, paper) is None and not keeps(paper, rule)


def shows_of(closer, book, paper):
    """Tell whether a paper shows that a book is of a closer."""
    if not is_book(closer.things, book) or not are_indexes(paper, len(book)):
        return False
    lots = [lot for lot in all_lots(closer.things) if not closer.is_closed(lot)]
    if len(paper) != len(lots) or any([keeps(lot, book[paper[at]]) for at, lot in enumerate(lots)]):
        return False
    return all([first_broken(book, lot) is None for lot in closer.closed])


def shows_stem(closer, book, paper):
    """Tell whether a paper shows that a book is the stem of a closer."""
    return is_tuple_of(paper, 0) and is_book(closer.things, book) and book == stem_of(closer)


def shows_least(closer, number, paper):
    """Tell whether a paper shows that no book of a closer has fewer rules than a number."""
    if not is_family(closer.things, paper) or not is_count(number, len(paper)):
        return False
    found = [stop for stop, _ in stem_of(closer)]
    return all([lot in found for lot in paper])


def shows_keys(closer, family, paper):
    """Tell whether a paper shows that a family is that of the keys."""
    return is_same_family(closer.things, family, keys(closer)) and is_same_family(closer.things, paper, tops(closer))


def is_meet_of(closer, at, pair):
    """Tell whether a value is a pair of indexes of closed lots other than one, which have just this one in common."""
    if not is_tuple_of(pair, 2) or not are_indexes(pair, len(closer)) or at in pair:
        return False
    return in_both(closer.closed[pair[0]], closer.closed[pair[1]]) == closer.closed[at]


def shows_corners(closer, family, paper):
    """Tell whether a paper shows that a family is that of the corners."""
    if not is_same_family(closer.things, family, corners(closer)):
        return False
    others = [at for at, lot in enumerate(closer.closed) if lot not in family and lot != closer.things]
    return is_tuple_of(paper, len(others)) and all([is_meet_of(closer, at, paper[k]) for k, at in enumerate(others)])


def is_step(closer, lines, step):
    """Tell whether a value is a step of a trail at which these lines have come."""
    if not is_tuple_of(step, 3) or not are_indexes(step[:2], len(lines)) or step[0] == step[1]:
        return False
    lot = agreed(closer.things, lines[step[0]], lines[step[1]])
    return is_lot(closer.things, step[2]) and step[2] == lot and not closer.is_closed(lot)


def shows_no_loss(closer, parts, paper):
    """Tell whether a paper shows that parts lose nothing."""
    if not are_parts(closer.things, parts) or not isinstance(paper, tuple):
        return False
    lines = first_lines(closer.things, parts)
    for step in paper:
        if not is_step(closer, lines, step):
            return False
        lines = stepped(closer, lines, step)
    return noughts(closer.things) in lines


def comes(things, sheet, parts, line):
    """Tell whether a line comes when a sheet that is cut into parts is put together again."""
    return all([line_on(things, line, part) in [line_on(things, one, part) for one in sheet] for part in parts])


def shows_loss(closer, parts, paper):
    """Tell whether a paper shows that parts lose something."""
    things = closer.things
    if not are_parts(things, parts) or not is_tuple_of(paper, 2):
        return False
    sheet, line = paper
    if not is_sheet(things, sheet) or not is_line(things, line) or line in sheet:
        return False
    # What keeps all rules that hold is closed.
    return all([closer.is_closed(lot) for lot in agreeing_of(things, sheet)]) and comes(things, sheet, parts, line)


def shows_rows(closer, rows, paper):
    """Tell whether a paper shows that a closer is that of some rows."""
    if not are_rows(closer.things, rows) or not all([keeps_tails(closer, row) for row in rows]):
        return False
    found = corners(closer)
    if not are_indexes(paper, len(rows)) or len(paper) != len(found):
        return False
    return all([corner in tails(rows[paper[at]]) for at, corner in enumerate(found)])


def shows_most_rows(closer, number, paper):
    """Tell whether a paper shows that a closer is convex, and that no fewer rows than a number will do."""
    if not is_family(closer.things, paper) or not is_count(number, len(paper)) or not is_of_kind(closer, "convex"):
        return False
    found = corners(closer)
    return all([lot in found for lot in paper]) and are_apart(paper)


def shows_fits(closer, answers, paper):
    """Tell whether a paper shows that a closer fits some answers."""
    return is_tuple_of(paper, 0) and are_answers(closer.things, answers) and agrees(closer, answers)


def shows_finer(closer, text, paper):
    """Tell whether a paper shows that a closer is finer than that with a text."""
    other = closer_with(text)
    return is_tuple_of(paper, 0) and other is not None and other.things == closer.things and is_finer(closer, other)


def shows_not_finer(closer, text, paper):
    """Tell whether a paper shows that a closer is not finer than that with a text."""
    other = closer_with(text)
    if other is None or other.things != closer.things or not is_lot(closer.things, paper):
        return False
    return other.is_closed(paper) and not closer.is_closed(paper)


def shows_kind(closer, word, paper):
    """Tell whether a paper shows that a closer is of a kind."""
    if not is_of_kind(closer, word):
        return False
    if word == "exchange":
        return is_same_family(closer.things, paper, bases_of(closer, closer.things))
    return is_tuple_of(paper, 0)


def are_alike(closer, pairs):
    """Tell whether pairs of closed lots have all the same in common, and the same span."""
    meets_told = {in_both(one, other): True for one, other in pairs}
    spans_told = {spanned(closer, one, other): True for one, other in pairs}
    return len(meets_told) == 1 and len(spans_told) == 1


def shows_no_modular(closer, paper):
    """Tell whether a paper is a pentagon."""
    if not are_closed(closer, paper, 3):
        return False
    low, beside, high = paper
    return low != high and has_all(high, low) and are_alike(closer, ((low, beside), (high, beside)))


def is_diamond_of(closer, paper):
    """Tell whether a paper is a diamond."""
    if not are_closed(closer, paper, 3):
        return False
    one, other, third = paper
    return one < other < third and are_alike(closer, ((one, other), (one, third), (other, third)))


def shows_no_distributive(closer, paper):
    """Tell whether a paper is a pentagon or a diamond."""
    return shows_no_modular(closer, paper) or is_diamond_of(closer, paper)


def shows_no_topology(closer, paper):
    """Tell whether a paper shows that a closer is not of a topology."""
    if not closer.is_closed(""):
        return is_tuple_of(paper, 0)
    return are_closed(closer, paper, 2) and not closer.is_closed(in_either(paper[0], paper[1]))


def are_beside(closer, paper):
    """Tell whether a paper is a triple of a closed lot and two unlike things that are not in it."""
    if not is_tuple_of(paper, 3) or not are_closed(closer, paper[:1], 1):
        return False
    lot, one, other = paper
    if not is_thing(closer.things, one) or not is_thing(closer.things, other):
        return False
    return one != other and one not in lot and other not in lot


def brings(closer, lot, one, other):
    """Tell whether the lot around a lot and a thing has another thing in it."""
    return other in closer.around(in_either(lot, one))


def shows_no_convex(closer, paper):
    """Tell whether a paper shows that a closer is not convex."""
    if not closer.is_closed(""):
        return is_tuple_of(paper, 0)
    if not are_beside(closer, paper):
        return False
    lot, one, other = paper
    return brings(closer, lot, one, other) and brings(closer, lot, other, one)


def shows_no_exchange(closer, paper):
    """Tell whether a paper is a triple that bars exchange."""
    if not are_beside(closer, paper):
        return False
    lot, one, other = paper
    return brings(closer, lot, one, other) and not brings(closer, lot, other, one)


ABOUT_VALUES = {
    "of": shows_of, "stem": shows_stem, "least": shows_least, "keys": shows_keys, "corners": shows_corners,
    "no loss": shows_no_loss, "loss": shows_loss, "rows": shows_rows, "most rows": shows_most_rows,
    "fits": shows_fits, "finer": shows_finer, "not finer": shows_not_finer,
}
ABOUT_NO_KIND = {
    "no modular": shows_no_modular, "no distributive": shows_no_distributive, "no topology": shows_no_topology,
    "no convex": shows_no_convex, "no exchange": shows_no_exchange,
}


def accepts_of_closer(word, told, paper):
    """Tell whether a paper shows a claim about a closer, told by its word and all that stands behind it."""
    closer = closer_with(told[0])
    if closer is None:
        return False
    if len(told) == 2 and word in ABOUT_VALUES:
        shows = ABOUT_VALUES[word]
        return shows(closer, told[1], paper)
    if len(told) == 1 and word in ABOUT_NO_KIND:
        bars = ABOUT_NO_KIND[word]
        return bars(closer, paper)
    return len(told) == 1 and is_kind_word(word) and shows_kind(closer, word, paper)


def accepts_of_book(word, told, paper):
    """Tell whether a paper shows what a claim tells of a book and a rule."""
    if not is_tuple_of(told, 4) or not is_things(told[0]):
        return False
    things, book, rule = told[0], told[1], told[2:]
    if not is_book(things, book) or not is_rule(things, rule):
        return False
    if word == "follows":
        return leads_on(book, rule, paper)
    return is_lot(things, paper) and shows_bars(book, rule, paper)


def accepts_open(told, paper):
    """Tell whether a paper shows that both are possible of a lot and a thing."""
    if not is_tuple_of(told, 4) or not is_tuple_of(paper, 2):
        return False
    things, answers, lot, thing = told
    if not is_things(things) or not are_answers(things, answers) or not is_lot(things, lot):
        return False
    one, other = closer_with(paper[0]), closer_with(paper[1])
    if not is_thing(things, thing) or one is None or other is None or one.things != things or other.things != things:
        return False
    fit = agrees(one, answers) and agrees(other, answers)
    return fit and thing in one.around(lot) and thing not in other.around(lot)


def accepts_none(told, paper):
    """Tell whether a paper shows that no closer fits."""
    if not is_tuple_of(told, 2) or not is_things(told[0]) or not are_answers(told[0], told[1]):
        return False
    answers = told[1]
    if not is_tuple_of(paper, 2) or not are_indexes(paper[:1], len(answers)) or not are_indexes(paper[1], len(answers)):
        return False
    lot, thing, is_in = answers[paper[0]]
    if is_in or not all([answers[at][2] for at in paper[1]]):
        return False
    return leads_on([(known, come) for known, come, _ in answers], (lot, thing), paper[1])


def accepts(claim, paper):
    """Tell whether a claim is one for the checker, and a paper one for it."""
    if not isinstance(claim, tuple) or len(claim) < 2 or not isinstance(claim[0], str):
        return False
    word, told = claim[0], claim[1:]
    if word in ("follows", "bars"):
        return accepts_of_book(word, told, paper)
    if word == "open":
        return accepts_open(told, paper)
    if word == "none":
        return accepts_none(told, paper)
    return accepts_of_closer(word, told, paper)
