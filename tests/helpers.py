"""What several tests need: wrong values of all kinds, a check of errors, and closers to ask."""

import copy
import functools
import inspect
import itertools
import random
import unittest

from closerworks import errors
from closerworks.benches import Bench
from closerworks.closers import Closer
from closerworks.console import Console
from closerworks.desks import Desk
from closerworks.riddles import Riddle
from closerworks.tables import Table


def odd_values():
    """Values that are neither strings nor tuples."""
    return [
        True, False, None, 0, 1, -1, 3, 10 ** 99, 1j, b"", b"a", b"ab", bytearray(b"a"), [], ["a"], ["", "a", "ab"],
        [["a", "b"]], {}, {"a": 1}, {"": "a"}, set(), {"a"}, frozenset("ab"), range(2), iter("ab"), object(), len,
        Closer, Closer("a", ("a",)), Closer("ab", ("", "ab")), Table, Table("a", ("a",)), Table("ab", ()),
        Riddle, Riddle("a", ()), Riddle("ab", (("a", "b", True),)), Bench(Closer("a", ("a",))), Desk, Desk(),
        Console(Closer("a", ("a",))), Bench(Closer("ab", ("ab",))).trial(), Desk().put,
        errors.InvalidLot("a"), errors.InvalidLot, ValueError("a"),
        lambda: "a", Ellipsis, NotImplemented, slice(0, 1), itertools, [[[[[[[[["a"]]]]]]]]],
    ]


def odd_tuples():
    """Tuples that are no rules, and no families, books or rows unless they are empty."""
    return [
        (True,), (None,), (0,), (1, 2), ((),), ((), ()), (("",),), (b"a",), (["a"], ["b"]), ({},), (("a",), ("b",)),
        ("A",), ("z", "Z"), ((((((((("a",),),),),),),),),),
    ]


def odd_words():
    """Strings that are no lots of any things."""
    return [
        "ba", "aa", "aba", "abb", "aab", "acb", "bac", "A", "Ab", "aB", "ABC", " ", "a ", " a", "a b", "-", "a-", "-a", "0",
        "a1", "1a", "_", "`", "`a", "{", "a{", "~", "a~", "\n", "a\n", "\na", "\t", "\x00", "a\x00", "\u00e9", "a\u00e9",
        "\uff41", "a,b", "None", "a" * 4000, " " * 4000, "abcdefghijklmnopqrstuvwxyza", "zyxwvutsrqponmlkjihgfedcba",
    ]


def wrong_things():
    """Values that are no things, each with what the error has."""
    values = odd_values() + odd_tuples() + odd_words()
    values += [(), "", ("a", "b"), ("a",), "abcdefgh", "abcdefghijklmnopqrstuvwxyz", "stuvwxyz"]
    return [(value, value) for value in values]


def wrong_any_lots():
    """Values that are no lots of any things."""
    values = odd_values() + odd_tuples() + odd_words()
    values += [(), ("a", "b"), ("a",), "abcdefgh", "abcdefghijklmnopqrstuvwxyz", "stuvwxyz"]
    return [(value, value) for value in values]


def outside(things):
    """A letter that is none of the things."""
    return [letter for letter in "abcdefgh" if letter not in things][0]


def wrong_lots(things):
    """Values that are no lots of these things."""
    other = outside(things)
    values = [other, "".join(sorted(things + other)), "abcdefgh", things + things[-1], things[0] + things[0]]
    return wrong_any_lots() + [(value, value) for value in values]


def wrong_members(things):
    """Values that cannot be a lot of these things, also no tuples of two lots."""
    return [value for value, _ in wrong_lots(things)]


def no_tuples():
    """Values that are no tuples, each with None."""
    return [(value, None) for value in odd_values() + odd_words() + ["", "a", "ab", "abc"]]


def wrong_single_things(things):
    """Values that are none of these things."""
    values = ["", " ", things[0] * 2, (things[0],), [things[0]]] + [lot for lot in every_lot(things) if len(lot) > 1]
    return wrong_lots(things) + [(value, value) for value in values]


def wrong_families(things):
    """Values that are no families of lots of these things, each with the index that the error has."""
    first, last = things[0], things[-1]
    found = no_tuples() + [([first, last], None), ([], None)]
    for member in wrong_members(things):
        found += [((member,), 0), (("", member), 1), (("", first, member, member), 2), ((member, first, ""), 0)]
    found += [(("", ""), 1), ((things, things), 1), ((things, ""), 1), (("", first, first), 2), (("", first, ""), 2)]
    found += [(("", first, things, things, "?"), 3 if len(things) > 1 else 2)]
    if len(things) > 1:
        found += [((last, first), 1), (("", last, first, "?"), 2), ((first, last, things), 2)]
    return found


def wrong_tuples_of_lots(things, most):
    """Values that are no tuples of up to so many lots, each with the index that the error has."""
    first = things[0]
    found = no_tuples() + [([first, things], None), ([], None)]
    for member in wrong_members(things):
        found += [((member,), 0), ((things, "", member), 2), ((first, first, member, member), 2)]
    found += [((first,) * (most + 1), most), (("",) * (most + 2), most), ((first,) * most + ("?",), most)]
    found += [(("?",) + (first,) * most, 0), ((first,) * 5 + ("?",) + (first,) * most, 5)]
    return found


def wrong_rules(things):
    """Values that are no rules between lots of these things."""
    first = things[0]
    values = odd_values() + odd_words() + odd_tuples() + ["", first, things, (), (first,), (first, first, first)]
    values += [[first, first], ("", "", ""), ((first, first),), {first: first}]
    for member in wrong_members(things):
        values += [(member, first), (first, member), (member, member), (member, ""), ("", member)]
    return [(value, value) for value in values]


def wrong_books(things, most=200):
    """Values that are no books of rules between lots of these things, each with the index that the error has."""
    rule = ("", things[0])
    found = no_tuples() + [([rule], None), ([], None), (rule, 0), (("ab", "bc"), 0)]
    for wrong, _ in wrong_rules(things):
        found += [((wrong,), 0), ((rule, wrong), 1), ((rule, rule, wrong, wrong), 2), ((wrong, rule), 0)]
    found += [((rule,) * (most + 1), most), ((rule,) * (most + 7), most), ((rule,) * most + (None,), most)]
    found += [((None,) + (rule,) * most, 0), ((rule,) * 9 + (None,) + (rule,) * most, 9)]
    return found


def wrong_closers():
    """Values that are no closers."""
    values = odd_words() + odd_tuples() + ["", "a", "ab - ab", (), ("ab", ("", "ab")), ("a", ("a",)), Closer]
    values += [value for value in odd_values() if not isinstance(value, Closer)]
    return [(value, value) for value in values]


def wrong_tables():
    """Values that are no tables."""
    values = odd_words() + odd_tuples() + ["", "a", (), ("ab", ("a",)), ("a", "ab"), Table]
    values += [value for value in odd_values() if not isinstance(value, Table)]
    return [(value, value) for value in values]


def wrong_riddles():
    """Values that are no riddles."""
    values = odd_words() + odd_tuples() + ["", "a", (), ("ab", (("a", "b", True),)), ("a", ()), Riddle]
    values += [value for value in odd_values() if not isinstance(value, Riddle)]
    return [(value, value) for value in values]


def wrong_asked(things, lot):
    """Values that are none of these things, or are in a lot."""
    return wrong_single_things(things) + [(thing, thing) for thing in lot]


def wrong_truths():
    """Values that are neither True nor False."""
    values = [value for value in odd_values() if not isinstance(value, bool)] + odd_words() + odd_tuples()
    return [(value, value) for value in values + ["", "True", (), (True,), [False], {True: False}, 0, 1, 2]]


def wrong_answers_told(things):
    """Values that are no tuples of answers about these things, each with the index that the error has."""
    first, last = things[0], things[-1]
    right = ("", first, True)
    found = no_tuples() + [([right], None), ([], None), (right, 0), ((list(right),), 0), (right[:2], 0)]
    values = odd_values() + odd_words() + odd_tuples() + ["", things, (), right[:2], right + (True,), list(right), (right,)]
    values += [(first, first, True), (things, last, False), ("", "", True), ("", things * 2, True), (None, first, True)]
    values += [(member, first, True) for member in wrong_members(things)]
    values += [("", value, False) for value, _ in wrong_single_things(things)]
    values += [("", first, value) for value, _ in wrong_truths()]
    for value in values:
        found += [((value,), 0), ((right, value), 1), ((right, right, value, value), 2), ((value, right), 0)]
    found += [((right,) * 13, 12), ((right,) * 40, 12), ((right,) * 12 + (None,), 12), ((right,) * 5 + ("?",) * 9, 5)]
    return found


def wrong_strings(things):
    """Values that are no tuples of rows, strings of all things, each with the index that the error has."""
    back = things[::-1]
    found = no_tuples() + [([things], None), ([], None), ((), None), ({things: 1}, None), (range(0), None)]
    values = odd_values() + odd_words() + odd_tuples() + ["", things + things[0], things[1:], things + outside(things)]
    values += [outside(things) + things[1:], things.upper(), things + " ", tuple(things), list(things), (things,), ()]
    values += [things[0] * len(things)] if len(things) > 1 else []
    for value in [value for value in values if not (isinstance(value, str) and sorted(value) == list(things))]:
        found += [((value,), 0), ((things, value), 1), ((back, back, value, value), 2), ((value, things), 0)]
    found += [((things,) * 61, 60), ((back,) * 99, 60), ((things,) * 60 + (None,), 60), ((back,) * 7 + ("",) * 90, 7)]
    return found


def wrong_weights(things):
    """Values that are no tuples of weights, one for each thing, each with the index that the error has."""
    many = len(things)
    found = no_tuples() + [([0] * many, None), (range(many), None), (5, None)]
    values = [value for value in odd_values() if isinstance(value, bool) or not isinstance(value, int)]
    values += odd_words() + odd_tuples() + ["", "0", (), (0,), [0], 1000001, -1000001, 10 ** 99, -10 ** 99]
    for value in values:
        for at in {0, many // 2, many - 1}:
            found += [((5,) * at + (value,) + (-5,) * (many - at - 1), at), ((0,) * at + (value,), at)]
            found += [((0,) * at + (value, value) + (0,) * many, at)]
        found += [((7,) * many + (value,), many)]
    for short in range(many):
        found += [((1000000,) * short, short)]
    return found + [((0,) * (many + 1), many), ((-1000000,) * (many + 5), many)]


def wrong_integers(most):
    """Values that are no integers from 0 to a greatest one."""
    values = [value for value in odd_values() if isinstance(value, bool) or not isinstance(value, int)]
    return values + odd_words() + odd_tuples() + ["", "0", (), (0,), [0], -1, -most - 1, most + 1, 10 ** 99, -10 ** 99]


def wrong_sheets(things):
    """Values that are no sheets for these things, each with the index that the error has."""
    width = len(things)
    one, two, many = (0,) * width, (0,) * (width - 1) + (1,), (1000,) * width
    found = no_tuples() + [([one], None), ([], None), (one, 0), ([one, two], None)]
    for value in wrong_integers(1000):
        found += [((one, (0,) * (width - 1) + (value,)), 1), (((value,) + (0,) * (width - 1), one), 0)]
    for line in odd_values() + odd_words() + odd_tuples()[4:] + ["", things, (), list(one), one + (0,), one[1:], (one,)]:
        found += [((line,), 0), ((one, line), 1), ((one, two, line, line), 2), ((line, one), 0)]
    found += [((one, one), 1), ((two, one), 1), ((one, two, two), 2), ((one, two, many, many), 3), ((many, two, None), 1)]
    if width > 1:
        lines = tuple((0,) * (width - 2) + (at // 8, at % 8) for at in range(64))
    else:
        lines = tuple((at,) for at in range(64))
    found += [(lines + (many,), 64), (lines + (None,), 64), (lines[:9] + ("?",) + lines, 9), (lines + lines, 64)]
    return found


def wrong_parts(things):
    """Values that are no parts of these things, each with the index that the error has."""
    first, last = things[0], things[-1]
    found = no_tuples() + [([things], None), ([first, last], None), ([], None), ((), 0), (("",), 0), (("", things), 0)]
    for member in wrong_members(things):
        found += [((member,), 0), ((member, things), 0), ((things, member), 1), ((first, member, member), 1)]
    found += [((things, things), 1), ((things, ""), 1), ((first, ""), 1), ((first, "", "?"), 1)]
    if len(things) > 1:
        found += [((first,), 1), ((last,), 1), ((last, first), 1), ((first, things), 1), ((things, last), 1)]
    if len(things) > 2:
        second = things[1]
        found += [((first, second), 2), ((first + second, last, last), 2), ((first, second, second + last), 2)]
        found += [((first + last, second, first), 2), ((first + second, last, things), 2), ((first + second, second), 1)]
        found += [((first, second, "?", first), 2), ((first, second + last, things), 2)]
    if len(things) > 3:
        found += [((first + second, first + last), 2), ((first + last, second), 2), ((things[:-1],), 1), ((things[1:],), 1)]
    return found


def wrong_numbers(many):
    """Values that are no ascending tuples of so many indexes, each with the index that the error has."""
    found = no_tuples() + [([0], None), ([], None), (0, None), (range(many), None)]
    for value in wrong_integers(many - 1):
        found += [((value,), 0), ((value, 0), 0)]
        if many > 1:
            found += [((0, value), 1), ((0, 1, value, value), 2)]
    if many:
        found += [((0, 0), 1), ((False,), 0), ((many - 1, 0), 1), ((many,), 0), ((0, many), 1)]
    if many > 1:
        found += [((1, 0), 1), ((0, 1, 1), 2), ((0, True), 1), ((0, 1, 0, "?"), 2)]
    return found


def wrong_leads(things):
    """Values that are no tuples of leads, each with the index that the error has."""
    found = no_tuples() + [([], None), (["ab"], None)]
    values = odd_values() + odd_words() + odd_tuples() + ["", "a", things + "a", outside(things) * 2, (), ("a", "b")]
    values += [things[0] * 2, things[0], things[0] + outside(things), outside(things) + things[0], things[0] + "-"]
    values = [value for value in values if not (isinstance(value, str) and len(value) == 2 and set(value) <= set(things)
                                                and value[0] != value[1])]
    for value in values:
        found += [((value,), 0), ((value, "ab"), 0), ((value, value, "?"), 0)]
    if len(things) > 1:
        lead, back = things[0] + things[1], things[1] + things[0]
        for value in values:
            found += [((lead, value), 1), ((lead, back, value, value), 2)]
        found += [((lead, lead), 1), ((back, lead), 1), ((lead, back, back), 2), ([lead], None), ((back, lead, "?"), 1)]
    if len(things) > 2:
        first, second, third = things[:3]
        found += [((first + second, second + third), None), ((first + second, third + first), None),
                  ((first + second, second + first, second + third), None), ((first + third, first + second), 1)]
    return found


def told(error):
    """The one attribute of an error."""
    (value,) = vars(error).values()
    return value


class Case(unittest.TestCase):
    """A test with checks of errors and of calls."""

    def check_raises(self, kind, value, action, *args, **named):
        """The call raises this very error with this value, and changes nothing that it is passed."""
        shown = [repr(arg) for arg in args]
        try:
            result = action(*args, **named)
        except Exception as error:
            self.assertIs(type(error), kind, (action, args, named))
            if isinstance(value, int) and hasattr(error, "index"):
                self.assertEqual((type(told(error)), told(error)), (int, value), (action, args, named))
            elif isinstance(value, (str, int)):
                self.assertEqual((type(told(error)), told(error)), (type(value), value), (action, args, named))
            else:
                self.assertIs(told(error), value, (action, args, named))
        else:
            self.fail(f"{action} with {args} {named} returned {result!r}, and raised no {kind}")
        self.assertEqual(shown, [repr(arg) for arg in args])

    def check_call(self, action, names, args, kinds):
        """Arguments go by position and by name; a wrong one is told, the first one of several.

        `kinds` has for each argument the class of its error and pairs of a wrong value and what the error has.
        """
        named = dict(zip(names, args))
        right = action(*args)
        for result in (action(**named), action(*args), action(*copy.deepcopy(args)),
                       action(**dict(reversed(list(named.items())))), action(args[0], **dict(list(named.items())[1:]))):
            self.assertEqual(result, right)
            self.assertIs(type(result), type(right))
        listed = [parameter for parameter in inspect.signature(action).parameters]
        self.assertEqual(listed, list(names))
        for at, (kind, wrongs) in enumerate(kinds):
            for value, has in wrongs:
                self.check_raises(kind, has, action, *args[:at], value, *args[at + 1:])
                behind = [pairs[0][0] for _, pairs in kinds[at + 1:]]
                self.check_raises(kind, has, action, *args[:at], value, *behind)
            value, has = wrongs[-1]
            self.check_raises(kind, has, action, **{**named, names[at]: value})


def every_lot(things):
    """All lots of some things, told in another way than by the program."""
    return sorted("".join(part) for size in range(len(things) + 1) for part in itertools.combinations(things, size))


def every_family(things):
    """All families of lots of some things."""
    lots = every_lot(things)
    for size in range(len(lots) + 1):
        yield from itertools.combinations(lots, size)


def as_lot(letters):
    """The lot of some letters."""
    return "".join(sorted(set(letters)))


def some_families(things, many, seed):
    """Some families of lots of these things, the same ones each time."""
    chance = random.Random(seed)
    lots = every_lot(things)
    for _ in range(many):
        yield tuple(sorted(chance.sample(lots, chance.randint(0, min(9, len(lots))))))


def some_books(things, many, seed):
    """Some books of rules between lots of these things, the same ones each time."""
    chance = random.Random(seed)
    lots = every_lot(things)
    for _ in range(many):
        yield tuple((chance.choice(lots), chance.choice(lots)) for _ in range(chance.randint(0, 6)))


def meets_by_subsets(things, family):
    """The meets of a small family, by looking at all lots of its lots."""
    found = set()
    for size in range(len(family) + 1):
        for some in itertools.combinations(family, size):
            found.add("".join(letter for letter in things if all(letter in lot for lot in some)))
    return tuple(sorted(found))


def keeps_rule(lot, rule):
    """Whether a lot keeps a rule."""
    return not set(rule[0]) <= set(lot) or set(rule[1]) <= set(lot)


def closed_by_book(things, book):
    """The lots that keep all rules of a book."""
    return tuple(lot for lot in every_lot(things) if all(keeps_rule(lot, rule) for rule in book))


def around_in(things, closed, lot):
    """What is in common to all closed lots around a lot."""
    wide = [set(other) for other in closed if set(lot) <= set(other)]
    return "".join(letter for letter in things if all(letter in other for other in wide))


@functools.cache
def all_systems_of(things):
    """All families with the whole and all their meets, found by looking at all families."""
    return tuple(family for family in every_family(things) if things in family
                 and all("".join(x for x in a if x in b) in family for a in family for b in family))


def closers_of(things):
    """All closers of up to three things."""
    return [Closer(things, closed) for closed in all_systems_of(things)]


def some_closers(things, many, seed):
    """Some closers of these things, told by rules and by families, the same ones each time."""
    from closerworks.telling import by_family, by_rules
    found = [by_rules(things, book) for book in some_books(things, many // 2, seed)]
    return found + [by_family(things, family) for family in some_families(things, many - many // 2, seed)]


def example_closers():
    """The closers that the examples of the document name."""
    from closerworks.telling import by_rules
    flat = Closer("abc", ("", "a", "abc", "b", "c"))
    line = by_rules("abc", (("ac", "b"),))
    four = by_rules("abcd", (("ab", "c"), ("c", "d")))
    return flat, line, four


@functools.cache
def systems_of_four():
    """All families of lots of four things with the whole and all their meets: 2480 of them."""
    lots = every_lot("abcd")
    numbers = {lot: sum(1 << "abcd".index(thing) for thing in lot) for lot in lots}
    found = []
    by_size = sorted([lot for lot in lots if lot != "abcd"], key=lambda lot: (-len(lot), lot))

    def choose(at, chosen):
        if at == len(by_size):
            found.append(tuple(sorted(lot for lot in lots if numbers[lot] in chosen)))
            return
        number = numbers[by_size[at]]
        choose(at + 1, chosen | {number})
        # A lot that is a meet of those chosen so far, all of them no lesser, cannot be left out.
        if not any(one & other == number for one in chosen for other in chosen):
            choose(at + 1, chosen)

    choose(0, frozenset([15]))
    return found


def swaps_told(closer):
    """All swaps, by the words of the document."""
    found = []
    for lot in closer.closed:
        for one, other in itertools.permutations([x for x in closer.things if x not in lot], 2):
            if other in closer.around(as_lot(lot + one)) and one in closer.around(as_lot(lot + other)):
                found.append((lot, one, other))
    return found


def bars_told(closer):
    """All triples that bar exchange, by the words of the document."""
    found = []
    for lot in closer.closed:
        for one, other in itertools.permutations([x for x in closer.things if x not in lot], 2):
            if other in closer.around(as_lot(lot + one)) and one not in closer.around(as_lot(lot + other)):
                found.append((lot, one, other))
    return found


def tails_told(row):
    """The lots of the last things of a row."""
    return {as_lot(row[at:]) for at in range(len(row) + 1)}


def some_rows_of(things, many, seed):
    """Some tuples of rows of these things, the same ones each time."""
    chance = random.Random(seed)
    for _ in range(many):
        yield tuple("".join(chance.sample(things, len(things))) for _ in range(chance.randint(1, 6)))


def closer_of_rows(things, rows):
    """The closer of some rows, by the words of the document."""
    tails = set().union(*[tails_told(row) for row in rows])
    meets = {things}
    for tail in tails:
        meets |= {"".join(x for x in lot if x in tail) for lot in meets}
    return Closer(things, tuple(sorted(meets)))


def convex_samples():
    """Convex closers of one, two, three, four, five and seven things."""
    found = [closer for things in ("a", "xz", "abc") for closer in closers_of(things)
             if closer.is_closed("") and not swaps_told(closer)]
    for things, seed in (("bdfh", 5), ("abxyz", 6), ("acegikz", 7)):
        found += [closer_of_rows(things, rows) for rows in some_rows_of(things, 12, seed)]
    return found + [Closer("abcdefg", tuple(every_lot("abcdefg")))]


def other_samples():
    """Closers that are not convex."""
    return [closer for closer in sample_closers() + closers_of("abc") if not closer.is_closed("") or swaps_told(closer)]


def sample_closers():
    """Closers of one, two, three and seven things, the whole alone and all lots among them."""
    from closerworks.telling import by_family, by_rules
    found = [Closer(things, closed) for things in ("a", "b", "ab", "xz") for closed in all_systems_of(things)]
    found += list(example_closers())
    found += [Closer("abcdefg", ("abcdefg",)), Closer("tuvwxyz", tuple(every_lot("tuvwxyz")))]
    found += [by_family("abcdefg", family) for family in some_families("abcdefg", 6, 11)]
    found += [by_rules("bdfhjln", book) for book in some_books("bdfhjln", 6, 12)]
    return found
