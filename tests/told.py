"""The claims and papers of [28], looked at by the words of the document alone: nothing of the program is used here."""

import functools
import itertools

from tests.helpers import around_in, as_lot, every_lot, tails_told


def is_int(value, least, most):
    return type(value) is int and least <= value <= most


def is_things(value):
    return type(value) is str and 1 <= len(value) <= 7 and list(value) == sorted(set(value)) and all("a" <= x <= "z" for x in value)


def is_lot(things, value):
    return type(value) is str and list(value) == sorted(set(value)) and set(value) <= set(things)


def is_thing(things, value):
    return type(value) is str and len(value) == 1 and value in things


def is_family(things, value):
    return type(value) is tuple and all(is_lot(things, lot) for lot in value) and list(value) == sorted(set(value))


def is_rule(things, value):
    return type(value) is tuple and len(value) == 2 and is_lot(things, value[0]) and is_lot(things, value[1])


def is_book(things, value):
    return type(value) is tuple and len(value) <= 200 and all(is_rule(things, rule) for rule in value)


def is_parts(things, value):
    if not is_family(things, value) or len(value) > 35 or "" in value or set("".join(value)) != set(things):
        return False
    return not any(set(one) <= set(other) for one, other in itertools.permutations(value, 2))


def is_line(things, value):
    return type(value) is tuple and len(value) == len(things) and all(is_int(one, 0, 1000) for one in value)


def is_sheet(things, value):
    if type(value) is not tuple or len(value) > 64 or not all(is_line(things, line) for line in value):
        return False
    return list(value) == sorted(set(value))


def is_rows(things, value):
    if type(value) is not tuple or not 1 <= len(value) <= 60:
        return False
    return all(type(row) is str and sorted(row) == list(things) for row in value)


def is_answers(things, value):
    if type(value) is not tuple or len(value) > 12:
        return False
    return all(type(one) is tuple and len(one) == 3 and is_lot(things, one[0]) and is_thing(things, one[1])
               and one[1] not in one[0] and type(one[2]) is bool for one in value)


def read(text):
    """The pair of the things and the closed lots of a closer's text, or None."""
    return read_text(text) if type(text) is str else None


@functools.cache
def read_text(text):
    things, *words = text.split(" ")
    closed = tuple("" if word == "-" else word for word in words)
    if not is_things(things) or "" in words or not is_family(things, closed) or things not in closed:
        return None
    if any("".join(x for x in one if x in other) not in closed for one in closed for other in closed):
        return None
    return things, closed


def keeps(lot, rule):
    return not set(rule[0]) <= set(lot) or set(rule[1]) <= set(lot)


def common(one, other):
    return "".join(x for x in one if x in other)


@functools.cache
def around(closer, lot):
    return around_in(closer[0], closer[1], lot)


def span(closer, one, other):
    return around(closer, as_lot(one + other))


@functools.cache
def stops(closer):
    found = []
    for lot in sorted(every_lot(closer[0]), key=len):
        inside = [stop for stop in found if set(stop) < set(lot)]
        if lot not in closer[1] and all(set(around(closer, stop)) <= set(lot) for stop in inside):
            found.append(lot)
    return tuple(sorted(found))


@functools.cache
def corners(closer):
    found = []
    for lot in closer[1]:
        wider = [other for other in closer[1] if set(lot) < set(other)]
        if wider and around_in(closer[0], wider, lot) != lot:
            found.append(lot)
    return tuple(found)


@functools.cache
def keys(closer):
    full = [lot for lot in every_lot(closer[0]) if around(closer, lot) == closer[0]]
    return tuple(lot for lot in full if not any(set(other) < set(lot) for other in full))


@functools.cache
def tops(closer):
    less = [lot for lot in closer[1] if lot != closer[0]]
    return tuple(lot for lot in less if not any(set(lot) < set(other) for other in less))


def is_free(closer, lot):
    return all(x not in around(closer, lot.replace(x, "")) for x in lot)


@functools.cache
def bases(closer):
    free = [lot for lot in every_lot(closer[0]) if is_free(closer, lot)]
    return tuple(lot for lot in free if not any(set(lot) < set(other) for other in free))


def is_pentagon(closer, value):
    if type(value) is not tuple or len(value) != 3 or not all(is_lot(closer[0], lot) and lot in closer[1] for lot in value):
        return False
    x, y, z = value
    return set(x) < set(z) and common(x, y) == common(z, y) and span(closer, x, y) == span(closer, z, y)


def is_diamond(closer, value):
    if not is_family(closer[0], value) or len(value) != 3 or not set(value) <= set(closer[1]):
        return False
    pairs = list(itertools.combinations(value, 2))
    return len({common(*pair) for pair in pairs}) == 1 and len({span(closer, *pair) for pair in pairs}) == 1


def triples(closer):
    """All triples of a closed lot and two unlike things that are not in it."""
    return [(lot,) + pair for lot in closer[1]
            for pair in itertools.permutations([x for x in closer[0] if x not in lot], 2)]


def brings(closer, lot, one, other):
    return other in around(closer, as_lot(lot + one))


@functools.cache
def swaps(closer):
    return [(lot, x, y) for lot, x, y in triples(closer) if brings(closer, lot, x, y) and brings(closer, lot, y, x)]


@functools.cache
def barring(closer):
    return [(lot, x, y) for lot, x, y in triples(closer) if brings(closer, lot, x, y) and not brings(closer, lot, y, x)]


@functools.cache
def wrong_unions(closer):
    return [(one, other) for one in closer[1] for other in closer[1] if as_lot(one + other) not in closer[1]]


@functools.cache
def pentagons(closer):
    return [some for some in itertools.permutations(closer[1], 3) if is_pentagon(closer, some)]


@functools.cache
def diamonds(closer):
    return [some for some in itertools.combinations(closer[1], 3) if is_diamond(closer, some)]


@functools.cache
def is_kind(closer, word):
    if word == "modular":
        return all(common(span(closer, x, y), z) == span(closer, x, common(y, z))
                   for x in closer[1] for z in closer[1] if set(x) <= set(z) for y in closer[1])
    if word == "distributive":
        return all(common(x, span(closer, y, z)) == span(closer, common(x, y), common(x, z))
                   for x in closer[1] for y in closer[1] for z in closer[1])
    if word == "topology":
        return "" in closer[1] and not wrong_unions(closer)
    if word == "convex":
        return "" in closer[1] and not swaps(closer)
    return not barring(closer)


def fits(closer, answers):
    return all((thing in around(closer, lot)) is is_in for lot, thing, is_in in answers)


def leads(book, rule, paper):
    """Whether indexes of rules lead from the IF of a rule to its THEN."""
    if type(paper) is not tuple or not all(is_int(at, 0, len(book) - 1) for at in paper):
        return False
    come = set(rule[0])
    for at in paper:
        if not set(book[at][0]) <= come:
            return False
        come |= set(book[at][1])
    return set(rule[1]) <= come


def first_trail(things, parts):
    number = itertools.count(1)
    return [[0 if thing in part else next(number) for thing in things] for part in parts]


def walks(closer, parts, paper):
    """Whether steps of the trail lead to a line of noughts."""
    things = closer[0]
    if type(paper) is not tuple:
        return False
    lines = first_trail(things, parts)
    for step in paper:
        if type(step) is not tuple or len(step) != 3 or not all(is_int(at, 0, len(lines) - 1) for at in step[:2]):
            return False
        one, other = lines[step[0]], lines[step[1]]
        agreed = "".join(x for at, x in enumerate(things) if one[at] == other[at])
        if step[0] == step[1] or type(step[2]) is not str or step[2] != agreed or around(closer, agreed) == agreed:
            return False
        for at, thing in enumerate(things):
            if thing in around(closer, agreed):
                least, most = sorted([one[at], other[at]])
                for line in lines:
                    line[at] = least if line[at] == most else line[at]
    return [0] * len(things) in lines


def loses_line(closer, parts, paper):
    """Whether a paper is a pair of a sheet that keeps the rules that hold, and a line that comes and is not in it."""
    things, closed = closer
    if type(paper) is not tuple or len(paper) != 2 or not is_sheet(things, paper[0]) or not is_line(things, paper[1]):
        return False
    sheet, line = paper
    for one, other in itertools.combinations(sheet, 2):
        agreed = "".join(x for at, x in enumerate(things) if one[at] == other[at])
        if agreed not in closed:
            return False
    places = [[things.index(x) for x in part] for part in parts]
    here = all(any(all(one[at] == line[at] for at in place) for one in sheet) for place in places)
    return here and line not in sheet


def accepts_things(word, told, paper):
    """Of the claims that begin with things: whether both are right."""
    if word == "none":
        if len(told) != 2 or not is_things(told[0]) or not is_answers(told[0], told[1]):
            return False
        answers = told[1]
        if type(paper) is not tuple or len(paper) != 2 or not is_int(paper[0], 0, len(answers) - 1):
            return False
        lot, thing, is_in = answers[paper[0]]
        right = leads([answer[:2] for answer in answers], (lot, thing), paper[1])
        return not is_in and right and all(answers[at][2] for at in paper[1])
    if len(told) != 4 or not is_things(told[0]):
        return False
    things, given, lot, last = told
    if word == "open":
        if not is_answers(things, given) or not is_lot(things, lot) or not is_thing(things, last):
            return False
        if type(paper) is not tuple or len(paper) != 2:
            return False
        closers = [read(text) for text in paper]
        if None in closers or any(closer[0] != things or not fits(closer, given) for closer in closers):
            return False
        return last in around(closers[0], lot) and last not in around(closers[1], lot)
    if not is_book(things, given) or not is_rule(things, (lot, last)):
        return False
    if word == "follows":
        return leads(given, (lot, last), paper)
    return is_lot(things, paper) and all(keeps(paper, rule) for rule in given) and not keeps(paper, (lot, last))


def accepts_value(word, closer, value, paper):
    """Of the claims of a closer and a value: whether both are right."""
    things, closed = closer
    if word == "of":
        lots = [lot for lot in every_lot(things) if lot not in closed]
        if not is_book(things, value) or type(paper) is not tuple or len(paper) != len(lots):
            return False
        if not all(is_int(at, 0, len(value) - 1) for at in paper):
            return False
        kept = all(keeps(lot, rule) for lot in closed for rule in value)
        return kept and not any(keeps(lot, value[at]) for lot, at in zip(lots, paper))
    if word == "stem":
        right = tuple((stop, around(closer, stop)) for stop in stops(closer))
        return is_book(things, value) and value == right and type(paper) is tuple and paper == ()
    if word == "least":
        return is_family(things, paper) and is_int(value, 0, 10 ** 6) and len(paper) == value and set(paper) <= set(stops(closer))
    if word == "keys":
        return is_family(things, value) and is_family(things, paper) and value == keys(closer) and paper == tops(closer)
    if word == "corners":
        right = corners(closer)
        lots = [lot for lot in closed if lot not in right and lot != things]
        if not is_family(things, value) or value != right or type(paper) is not tuple or len(paper) != len(lots):
            return False
        if not all(type(pair) is tuple and len(pair) == 2 and all(is_int(at, 0, len(closed) - 1) for at in pair) for pair in paper):
            return False
        return all(lot not in (closed[one], closed[other]) and common(closed[one], closed[other]) == lot
                   for lot, (one, other) in zip(lots, paper))
    if word == "no loss":
        return is_parts(things, value) and walks(closer, value, paper)
    if word == "loss":
        return is_parts(things, value) and loses_line(closer, value, paper)
    return accepts_more(word, closer, value, paper)


def accepts_more(word, closer, value, paper):
    """Of more claims of a closer and a value: whether both are right."""
    things, closed = closer
    empty = type(paper) is tuple and paper == ()
    if word == "rows":
        right = corners(closer)
        if not is_rows(things, value) or type(paper) is not tuple or len(paper) != len(right):
            return False
        if not all(is_int(at, 0, len(value) - 1) for at in paper):
            return False
        kept = all(tails_told(row) <= set(closed) for row in value)
        return kept and all(corner in tails_told(value[at]) for corner, at in zip(right, paper))
    if word == "most rows":
        if not is_family(things, paper) or not is_int(value, 0, 10 ** 6) or len(paper) != value or not set(paper) <= set(corners(closer)):
            return False
        return is_kind(closer, "convex") and not any(set(one) <= set(other) for one, other in itertools.permutations(paper, 2))
    if word == "fits":
        return empty and is_answers(things, value) and fits(closer, value)
    other = read(value)
    if other is None or other[0] != things:
        return False
    if word == "finer":
        return empty and set(other[1]) <= set(closed)
    return is_lot(things, paper) and paper in other[1] and paper not in closed


def accepts_alone(word, closer, paper):
    """Of the claims of a closer alone: whether both are right."""
    empty = type(paper) is tuple and paper == ()
    if word == "exchange":
        return is_kind(closer, word) and is_family(closer[0], paper) and paper == bases(closer)
    if not word.startswith("no "):
        return empty and is_kind(closer, word)
    if word == "no modular":
        return is_pentagon(closer, paper)
    if word == "no distributive":
        return is_pentagon(closer, paper) or is_diamond(closer, paper)
    if word in ("no topology", "no convex") and "" not in closer[1]:
        return empty
    if type(paper) is not tuple or not all(type(value) is str for value in paper):
        return False
    right = {"no topology": wrong_unions, "no convex": swaps, "no exchange": barring}[word](closer)
    return paper in right


VALUES = ("of", "stem", "least", "keys", "corners", "no loss", "loss", "rows", "most rows", "fits", "finer", "not finer")
ALONE = ("modular", "distributive", "topology", "convex", "exchange")


def accepts_told(claim, paper):
    """Whether a claim is one for the checker, and a paper one for it."""
    if type(claim) is not tuple or len(claim) < 2 or type(claim[0]) is not str:
        return False
    word, told = claim[0], claim[1:]
    if word in ("follows", "bars", "open", "none"):
        return accepts_things(word, told, paper)
    closer = read(told[0])
    if closer is None:
        return False
    if len(told) == 2 and word in VALUES:
        return accepts_value(word, closer, told[1], paper)
    if len(told) == 1 and word in ALONE + tuple("no " + kind for kind in ALONE):
        return accepts_alone(word, closer, paper)
    return False
