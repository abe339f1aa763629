"""[2], [14], [15] Sheets: what they keep, how they are cut and put together."""

import itertools
import random
import unittest

from closerworks import sheets as module
from closerworks.closers import Closer
from closerworks.errors import (InvalidParts, InvalidRule, InvalidSheet, InvalidSheets, InvalidThings, NotACloser,
                                TooMany)
from closerworks.sheets import agreeing, by_sheet, cut, sheet_keeps, sheet_of, together
from closerworks.telling import corners
from tests.helpers import (Case, around_in, closers_of, every_lot, example_closers, meets_by_subsets, no_tuples,
                           odd_tuples, odd_values, odd_words, sample_closers, some_closers, wrong_closers, wrong_parts,
                           wrong_rules, wrong_sheets, wrong_things)

SEVEN = "acegikz"
FLAT, LINE, FOUR = example_closers()
SOME = ((0, 0, 1), (0, 1, 1), (1, 0, 2))


def some_sheets(things, many, seed):
    """Some sheets with few unlike values, the same ones each time, those of none and of one line among them."""
    chance = random.Random(seed)
    yield ()
    yield (tuple(chance.randint(0, 1000) for _ in things),)
    for _ in range(many):
        most = chance.randint(1, 3)
        lines = {tuple(chance.randint(0, most) for _ in things) for _ in range(chance.randint(1, 8))}
        yield tuple(sorted(lines))


def some_parts(things, many, seed):
    """Some parts of these things, the same ones each time, the whole and the single things among them."""
    chance = random.Random(seed)
    yield (things,)
    yield tuple(things)
    for _ in range(many):
        found = []
        for lot in chance.sample(every_lot(things)[1:], min(12, 2 ** len(things) - 1)):
            if not any(set(lot) <= set(other) or set(other) <= set(lot) for other in found):
                found.append(lot)
        for thing in things:
            if thing not in "".join(found):
                found.append(thing)
        yield tuple(sorted(found))


def values_on(things, line, lot):
    return tuple(value for thing, value in zip(things, line) if thing in lot)


def keeps_told(things, sheet, rule):
    """Whether lines that are alike for all things of IF are so for all things of THEN, by looking at all pairs."""
    return all(values_on(things, one, rule[1]) == values_on(things, other, rule[1])
               for one, other in itertools.combinations(sheet, 2)
               if values_on(things, one, rule[0]) == values_on(things, other, rule[0]))


def together_told(things, sheets, parts):
    """The lines that come, by looking at all lines of the values that there are."""
    held = {thing: sorted({line[part.index(thing)] for part, sheet in zip(parts, sheets) if thing in part
                           for line in sheet}) for thing in things}
    lines = itertools.product(*[held[thing] for thing in things])
    return tuple(line for line in lines
                 if all(values_on(things, line, part) in sheet for part, sheet in zip(parts, sheets)))


def all_rules(things):
    return [(one, other) for one in every_lot(things) for other in every_lot(things)]


class Examples(unittest.TestCase):

    def test_examples(self):
        flat, line = FLAT, LINE
        some = ((0, 0, 1), (0, 1, 1), (1, 0, 2))
        self.assertEqual(
            [agreeing("abc", some), by_sheet("abc", some).closed, sheet_keeps("abc", some, ("a", "c")), sheet_keeps("abc", some, ("b", "a")), sheet_of(flat), by_sheet("abc", sheet_of(line)) == line],
            [('', 'ac', 'b'), ('', 'abc', 'ac', 'b'), True, False, ((0, 0, 0), (0, 1, 1), (2, 0, 2), (3, 3, 0)), True])
        self.assertEqual(
            [cut("abc", some, ("ab", "bc")), together("abc", cut("abc", some, ("ab", "bc")), ("ab", "bc")), together("abc", cut("abc", some, ("ab", "ac")), ("ab", "ac")) == some],
            [(((0, 0), (0, 1), (1, 0)), ((0, 1), (0, 2), (1, 1))), ((0, 0, 1), (0, 0, 2), (0, 1, 1), (1, 0, 1), (1, 0, 2)), True])


class Keeping(Case):

    def check_sheet(self, things, sheet, rules):
        before = repr(sheet)
        pairs = itertools.combinations(sheet, 2)
        told = {"".join(x for x, a, b in zip(things, one, other) if a == b) for one, other in pairs}
        self.assertEqual(agreeing(things, sheet), tuple(sorted(told)))
        closer = by_sheet(things, sheet)
        self.assertIs(type(closer), Closer)
        self.assertEqual((closer.things, closer.closed), (things, meets_by_subsets(things, tuple(sorted(told)))))
        for rule in rules:
            keeps = keeps_told(things, sheet, rule)
            self.assertIs(sheet_keeps(things, sheet, rule), keeps, (sheet, rule))
            # The rules that a sheet keeps are those that hold by its closer.
            self.assertIs(set(rule[1]) <= set(around_in(things, closer.closed, rule[0])), keeps)
        self.assertEqual(repr(sheet), before)

    def test_sheets_of_few_things(self):
        for things, seed in (("a", 1), ("bz", 2), ("abc", 3)):
            for sheet in some_sheets(things, 40, seed):
                self.check_sheet(things, sheet, all_rules(things))

    def test_seven_things(self):
        for sheet in some_sheets(SEVEN, 12, 4):
            self.check_sheet(SEVEN, sheet[:5], all_rules(SEVEN)[::211])

    def test_no_line_and_one_line(self):
        for things in ("a", "abc", SEVEN):
            for sheet in ((), ((0,) * len(things),), ((1000,) * len(things),)):
                self.assertEqual(agreeing(things, sheet), ())
                self.assertEqual(by_sheet(things, sheet).closed, (things,))
                self.assertIs(sheet_keeps(things, sheet, ("", things)), True)

    def test_sixty_four_and_sixty_five_lines(self):
        lines = tuple((at, at % 2) for at in range(65))
        self.assertEqual(agreeing("ab", lines[:64]), ("", "b"))
        self.assertIs(sheet_keeps("ab", lines[:64], ("b", "a")), False)
        self.assertIs(sheet_keeps("ab", lines[:64], ("a", "b")), True)
        for action, more in ((agreeing, ()), (by_sheet, ()), (sheet_keeps, (("a", "b"),)), (cut, (("ab",),))):
            self.assertIsNotNone(action("ab", lines[:64], *more))
            self.check_raises(InvalidSheet, 64, action, "ab", lines, *more)
            self.check_raises(InvalidSheet, 64, action, "ab", lines + lines, *more)
            self.check_raises(InvalidSheet, 3, action, "ab", lines[:3] + ((0,),) + lines, *more)

    def test_values(self):
        for action, more in ((agreeing, ()), (by_sheet, ()), (sheet_keeps, (("a", "b"),)), (cut, (("ab",),))):
            self.assertIsNotNone(action("ab", ((0, 0), (0, 1000), (1000, 0), (1000, 1000)), *more))
            for value in (-1, 1001, True, False, None, "0", b"0", (0,), 10 ** 99):
                self.check_raises(InvalidSheet, 0, action, "ab", ((0, value), (1, 1)), *more)
                self.check_raises(InvalidSheet, 1, action, "ab", ((0, 0), (value, 1), (0, 0)), *more)

    def test_calls_and_wrong_inputs(self):
        for things, sheet in (("abc", SOME), ("a", ()), (SEVEN, ((0,) * 7, (1,) * 7))):
            kinds = [(InvalidThings, wrong_things()), (InvalidSheet, wrong_sheets(things))]
            self.check_call(agreeing, ("things", "sheet"), (things, sheet), kinds)
            self.check_call(by_sheet, ("things", "sheet"), (things, sheet), kinds)
            kinds = kinds + [(InvalidRule, wrong_rules(things))]
            self.check_call(sheet_keeps, ("things", "sheet", "rule"), (things, sheet, ("", things)), kinds)


class SheetOf(Case):

    def test_the_sheet_of_the_corners(self):
        for closer in sample_closers() + closers_of("abc") + some_closers("bdfh", 20, 27):
            before = str(closer)
            lines = {(0,) * len(closer.things)}
            for number, corner in enumerate(corners(closer), 1):
                lines.add(tuple(0 if thing in corner else number for thing in closer.things))
            self.assertEqual(sheet_of(closer), tuple(sorted(lines)))
            self.assertEqual(by_sheet(closer.things, sheet_of(closer)), closer)
            self.assertEqual(str(closer), before)

    def test_edges(self):
        for things in ("a", "abc", SEVEN):
            self.assertEqual(sheet_of(Closer(things, (things,))), ((0,) * len(things),))
            self.assertEqual(sheet_of(Closer(things, ("", things))), ((0,) * len(things), (1,) * len(things)))
        # The lines are ascending, not in the order of the corners.
        self.assertEqual(sheet_of(Closer("abc", ("a", "ab", "abc"))), ((0, 0, 0), (0, 0, 2), (0, 1, 1)))
        threes = Closer("abcdefg", tuple(lot for lot in every_lot("abcdefg") if len(lot) < 4 or len(lot) == 7))
        self.assertEqual(len(sheet_of(threes)), 36)
        self.assertEqual(by_sheet("abcdefg", sheet_of(threes)), threes)

    def test_calls_and_wrong_inputs(self):
        for closer in (FLAT, Closer("a", ("a",)), Closer(SEVEN, ("", SEVEN))):
            self.check_call(sheet_of, ("closer",), (closer,), [(NotACloser, wrong_closers())])


class Cutting(Case):

    def test_each_part_has_the_lines_for_its_things_once(self):
        for things, seed in (("a", 1), ("bz", 2), ("abc", 3), ("bdfhj", 4), (SEVEN, 5)):
            for sheet in some_sheets(things, 12, seed):
                for parts in some_parts(things, 6, seed):
                    before = (repr(sheet), repr(parts))
                    told = tuple(tuple(sorted({values_on(things, line, part) for line in sheet})) for part in parts)
                    self.assertEqual(cut(things, sheet, parts), told)
                    self.assertEqual((repr(sheet), repr(parts)), before)

    def test_edges(self):
        self.assertEqual(cut("abc", (), ("ab", "bc")), ((), ()))
        self.assertEqual(cut("abc", ((1, 2, 3),), ("a", "b", "c")), (((1,),), ((2,),), ((3,),)))
        self.assertEqual(cut("abc", SOME, ("abc",)), (SOME,))
        threes = tuple("".join(three) for three in itertools.combinations("abcdefg", 3))
        self.assertEqual(cut("abcdefg", ((0, 1, 2, 3, 4, 5, 6),), threes)[-1], ((4, 5, 6),))
        self.check_raises(InvalidParts, 35, cut, "abcdefg", (), threes + ("efg",))

    def test_calls_and_wrong_inputs(self):
        for args in (("abc", SOME, ("ab", "bc")), ("a", (), ("a",)), (SEVEN, ((0,) * 7, (1,) * 7), ("ace", "egikz"))):
            kinds = [(InvalidThings, wrong_things()), (InvalidSheet, wrong_sheets(args[0])),
                     (InvalidParts, wrong_parts(args[0]))]
            self.check_call(cut, ("things", "sheet", "parts"), args, kinds)


class Together(Case):

    def check(self, things, sheets, parts):
        before = (repr(sheets), repr(parts))
        told = together_told(things, sheets, parts)
        if len(told) > 64:
            self.check_raises(TooMany, len(told), together, things, sheets, parts)
        else:
            self.assertEqual(together(things, sheets, parts), told)
        self.assertEqual((repr(sheets), repr(parts)), before)
        return len(told)

    def test_what_was_cut(self):
        for things, seed in (("a", 11), ("bz", 12), ("abc", 13), ("bdfhj", 14)):
            for sheet in some_sheets(things, 25, seed):
                for parts in some_parts(things, 8, seed):
                    many = self.check(things, cut(things, sheet, parts), parts)
                    self.assertGreaterEqual(many, len(sheet))

    def test_sheets_that_need_not_fit(self):
        chance = random.Random(15)
        counts = []
        for things in ("bz", "abc", "bdfh", "abcde"):
            for parts in some_parts(things, 25, 16):
                most = chance.randint(1, 3)
                sheets = [{tuple(chance.randint(0, most) for _ in part) for _ in range(chance.randint(0, 12))} for part in parts]
                counts.append(self.check(things, tuple(tuple(sorted(sheet)) for sheet in sheets), parts))
        self.assertTrue(0 in counts and max(counts) > 64 and any(0 < many <= 64 for many in counts))

    def test_seven_things(self):
        chance = random.Random(17)
        for parts in some_parts("abcdefg", 25, 18):
            sheets = [{tuple(chance.randint(0, 1) for _ in part) for _ in range(2 ** len(part))} for part in parts]
            self.check("abcdefg", tuple(tuple(sorted(sheet)[:64]) for sheet in sheets), parts)

    def test_sixty_four_lines_and_more(self):
        eight, five, thirteen = (tuple((at,) for at in range(many)) for many in (8, 5, 13))
        self.assertEqual(together("ab", (eight, eight), ("a", "b")), tuple(itertools.product(range(8), repeat=2)))
        self.check_raises(TooMany, 65, together, "ab", (five, thirteen), ("a", "b"))
        self.check_raises(TooMany, 65, together, things="ab", sheets=(five, thirteen), parts=("a", "b"))
        wide = tuple((at,) for at in range(64))
        self.check_raises(TooMany, 64 ** 7, together, SEVEN, (wide,) * 7, tuple(SEVEN))
        self.assertEqual(together(SEVEN, (wide,) * 6 + ((),), tuple(SEVEN)), ())
        same = tuple((at, at) for at in range(64))
        chain = tuple(SEVEN[at:at + 2] for at in range(6))
        self.assertEqual(together(SEVEN, (same,) * 6, chain), tuple((at,) * 7 for at in range(64)))

    def test_too_many_lines_behind_all_other_errors(self):
        wide = tuple((at,) for at in range(64))
        self.check_raises(TooMany, 4096, together, "ab", (wide, wide), ("a", "b"))
        self.check_raises(InvalidThings, "ba", together, "ba", (wide, wide), ("a", "b"))
        self.check_raises(InvalidParts, 2, together, "abc", (wide, wide), ("a", "b"))
        self.check_raises(InvalidSheets, 1, together, "ab", (wide, wide + ((64,),)), ("a", "b"))
        self.check_raises(InvalidSheets, None, together, "ab", (wide, wide, wide), ("a", "b"))

    def test_very_many_lines_of_linked_parts(self):
        pairs = tuple("".join(pair) for pair in itertools.combinations("abcdefg", 2))
        full = tuple(itertools.product(range(8), repeat=2))
        self.check_raises(TooMany, 8 ** 7, together, "abcdefg", (full,) * 21, pairs)
        star = ("ab", "ac", "ad", "ae", "af", "ag")
        self.check_raises(TooMany, 8 ** 7, together, "abcdefg", (full,) * 6, star)
        self.check_raises(TooMany, 8 ** 6 * 7, together, "abcdefg", (full,) * 5 + (full[8:],), star)
        # Of the first two things just the pairs of like values are left, and of two others the unlike ones.
        like = tuple((at, at) for at in range(8))
        unlike = tuple(pair for pair in full if pair[0] != pair[1])
        some = tuple({"ab": like, "fg": unlike}.get(pair, full) for pair in pairs)
        self.check_raises(TooMany, 8 * 8 ** 3 * 8 * 7, together, "abcdefg", some, pairs)

    def test_the_lines_are_ascending_whatever_the_values(self):
        values = (0, 7, 8, 16, 64, 128, 999, 1000)
        eight = tuple((value,) for value in values)
        self.assertEqual(together("ab", (eight, eight), ("a", "b")), tuple(itertools.product(values, repeat=2)))
        both = tuple(sorted((value, 1000 - value) for value in values))
        self.assertEqual(together("abc", (both, both), ("ab", "ac")),
                         tuple((one, other, other) for one, other in both))

    def test_no_line(self):
        self.assertEqual(together("abc", ((), ()), ("ab", "bc")), ())
        self.assertEqual(together("abc", ((), ((0, 0),)), ("ab", "bc")), ())
        self.assertEqual(together("abc", (((0, 1),), ((0, 0),)), ("ab", "bc")), ())
        self.assertEqual(together("abc", ((),), ("abc",)), ())

    def test_calls(self):
        for things, sheets, parts in (("abc", (((0, 1),), ((1, 2), (2, 0))), ("ab", "bc")), ("a", ((),), ("a",)),
                                      (SEVEN, (((1,) * 3,), ((1,) * 5,)), ("ace", "egikz"))):
            named = {"things": things, "sheets": sheets, "parts": parts}
            self.check_call(together, tuple(named), tuple(named.values()), [])

    def test_wrong_things_and_parts_are_told_ahead_of_wrong_sheets(self):
        sheets = (((0, 1),), ((1, 2),))
        for things, has in wrong_things():
            for others in (sheets, None, (), ("?",)):
                self.check_raises(InvalidThings, has, together, things, others, ("ab", "bc"))
                self.check_raises(InvalidThings, has, together, things, others, None)
        for named in ("a", "ab", "abc", "abcd", SEVEN):
            for parts, has in wrong_parts(named):
                for others in (sheets, None, (), ("?",)):
                    self.check_raises(InvalidParts, has, together, named, others, parts)

    def test_another_number_of_sheets(self):
        line = ((0, 1),)
        for sheets in ((), (line,), (line, line, line), (line, line, "?"), ("?",), ("?", line, line), (None,) * 9):
            self.check_raises(InvalidSheets, None, together, "abc", sheets, ("ab", "bc"))
        self.check_raises(InvalidSheets, None, together, "a", (), ("a",))
        for sheets, has in no_tuples() + [([line, line], None)]:
            self.check_raises(InvalidSheets, None, together, "abc", sheets, ("ab", "bc"))

    def test_wrong_sheets(self):
        right = {"ab": ((0, 1),), "c": ((5,),), "ac": ((0, 5), (1, 5))}
        for parts in (("ab", "c"), ("ab", "ac")):
            first, second = (right[part] for part in parts)
            for sheet, _ in wrong_sheets(parts[0]):
                self.check_raises(InvalidSheets, 0, together, "abc", (sheet, second), parts)
                self.check_raises(InvalidSheets, 0, together, "abc", (sheet, "?"), parts)
            for sheet, _ in wrong_sheets(parts[1]):
                self.check_raises(InvalidSheets, 1, together, "abc", (first, sheet), parts)
        for wrong in odd_values() + odd_words() + odd_tuples():
            self.check_raises(InvalidSheets, 1, together, "abc", (right["ab"], wrong), ("ab", "c"))

    def test_sheets_of_the_wrong_length_for_their_part(self):
        one, two, three = ((0,),), ((0, 0),), ((0, 0, 0),)
        for at, sheets in ((0, (one, two)), (0, (three, two)), (1, (two, one)), (1, (two, three)), (0, (one, one))):
            self.check_raises(InvalidSheets, at, together, "abc", sheets, ("ab", "bc"))
        self.check_raises(InvalidSheets, 1, together, "abc", (two, two), ("ab", "c"))
        self.check_raises(InvalidSheets, 0, together, "abc", (one, two), ("ab", "c"))


class Module(unittest.TestCase):

    def test_all_is_defined_here(self):
        for name in ("sheet_keeps", "agreeing", "by_sheet", "sheet_of", "cut", "together"):
            self.assertEqual(getattr(module, name).__module__, "closerworks.sheets")


if __name__ == "__main__":
    unittest.main()
