"""[2], [15], [16] Parts: what they lose and keep, and parts on which closers are strict or mild."""

import itertools
import random
import unittest

from closerworks import parts as module
from closerworks.closers import Closer
from closerworks.errors import InvalidLot, InvalidParts, NotACloser
from closerworks.parts import is_mild, is_strict, keep_rules, loses, losing, mild_parts, strict_parts, trail
from closerworks.sheets import cut, together
from closerworks.telling import by_rules
from tests.helpers import (Case, closers_of, every_lot, example_closers, sample_closers, some_closers, wrong_closers,
                           wrong_lots, wrong_parts)

SEVEN = "acegikz"
WIDE = "abcdefg"
FLAT, LINE, FOUR = example_closers()
THREES = tuple("".join(three) for three in itertools.combinations(WIDE, 3))


def all_samples():
    return sample_closers() + closers_of("abc") + some_closers("bdfh", 20, 37)


def is_antichain(lots):
    return not any(set(one) <= set(other) or set(other) <= set(one) for one, other in itertools.combinations(lots, 2))


def all_parts(things):
    """All parts of up to three things."""
    lots = [lot for lot in every_lot(things) if lot]
    for size in range(1, 2 ** len(things)):
        for some in itertools.combinations(lots, size):
            if is_antichain(some) and set("".join(some)) == set(things):
                yield some


def some_parts(things, many, seed):
    """Some parts of these things, the same ones each time, the whole and the single things among them."""
    chance = random.Random(seed)
    yield (things,)
    yield tuple(things)
    for _ in range(many):
        found = []
        for lot in chance.sample(every_lot(things)[1:], min(chance.choice((3, 9, 40)), 2 ** len(things) - 1)):
            if is_antichain(found + [lot]):
                found.append(lot)
        for thing in things:
            if thing not in "".join(found):
                found.append(thing)
        yield tuple(sorted(found))


def cases():
    """Closers with parts of their things."""
    for closer in closers_of("a") + closers_of("bz") + closers_of("abc"):
        for parts in all_parts(closer.things):
            yield closer, parts
    for closer in all_samples():
        if len(closer.things) > 3:
            for parts in some_parts(closer.things, 5, len(closer)):
                yield closer, parts


def values_on(things, line, lot):
    return tuple(value for thing, value in zip(things, line) if thing in lot)


def trail_told(closer, parts, chance):
    """The end of the trail, its steps being done in any order."""
    things, numbers = closer.things, itertools.count(1)
    lines = [[0 if thing in part else next(numbers) for thing in things] for part in parts]
    while True:
        steps = []
        for one, other in itertools.combinations(range(len(lines)), 2):
            same = "".join(x for x, a, b in zip(things, lines[one], lines[other]) if a == b)
            steps += [(one, other, thing) for thing in closer.around(same) if thing not in same]
        if not steps:
            return tuple(tuple(line) for line in lines)
        one, other, thing = chance.choice(steps)
        values = sorted((lines[one][things.index(thing)], lines[other][things.index(thing)]))
        lines = [[values[0] if value == values[1] else value for value in line] for line in lines]


def keeps_all(closer, sheet):
    """Whether a sheet keeps all rules that hold by a closer."""
    for one, other in itertools.combinations(sheet, 2):
        same = "".join(x for x, a, b in zip(closer.things, one, other) if a == b)
        if closer.around(same) != same:
            return False
    return True


def comes(things, sheet, parts, line):
    """Whether a line comes when a sheet, cut into parts, is put together again."""
    return all(any(values_on(things, line, part) == values_on(things, other, part) for other in sheet) for part in parts)


def keep_told(closer, parts):
    """Whether the rules within single parts, by as many steps as it takes, lead all over to the lots around lots."""
    for lot in every_lot(closer.things):
        come = set(lot)
        for _ in range(len(closer.things)):
            for part in parts:
                some = "".join(x for x in closer.things if x in part and x in come)
                come |= set(closer.around(some)) & set(part)
        if come != set(closer.around(lot)):
            return False
    return True


def strict_told(closer, lot):
    return all(set(closer.around(part)) & set(lot) in (set(part), set(lot)) for part in every_lot(lot))


def mild_told(closer, lot):
    wide = [set(part) for part in every_lot(lot) if set(lot) <= set(closer.around(part))]
    least = [part for part in wide if not any(other < part for other in wide)]
    for part in every_lot(lot):
        for thing in set(closer.around(part)) & set(lot) - set(part):
            if not set(lot) <= set(closer.around(part)) and not any(thing in other for other in least):
                return False
    return True


class Examples(unittest.TestCase):

    def test_examples(self):
        flat, line, four = FLAT, LINE, FOUR
        self.assertEqual(
            [trail(four, ("abc", "cd")), loses(four, ("abc", "cd")), loses(four, ("ab", "cd")), losing(four, ("abc", "cd")), keep_rules(four, ("abc", "cd")), keep_rules(four, ("abd", "cd"))],
            [((0, 0, 0, 0), (2, 3, 0, 0)), False, True, None, True, False])
        self.assertEqual(
            [trail(four, ("ab", "cd")), is_strict(four, "abcd"), is_strict(four, "abc"), is_mild(four, "abcd"), is_strict(flat, "abc"), is_strict(line, "abc")],
            [((0, 0, 1, 2), (3, 4, 0, 0)), False, True, False, True, True])


class Losing(Case):

    def test_the_trail_has_one_end_in_whatever_order(self):
        chance = random.Random(1)
        for closer, parts in cases():
            before = (str(closer), repr(parts))
            found = trail(closer, parts)
            self.assertEqual(found, trail_told(closer, parts, chance), before)
            self.assertIs(loses(closer, parts), (0,) * len(closer.things) not in found)
            self.assertEqual((str(closer), repr(parts)), before)

    def test_what_loses_is_shown_by_a_sheet(self):
        seen = []
        for closer, parts in cases():
            before = (str(closer), repr(parts))
            found = losing(closer, parts)
            self.assertIs(found is not None, loses(closer, parts))
            seen.append(found is None)
            if found is not None:
                self.assertIs(type(found), tuple)
                self.check_loss(closer, parts, *found)
            self.assertEqual((str(closer), repr(parts)), before)
        self.assertGreater(min(seen.count(True), seen.count(False)), 100)

    def check_loss(self, closer, parts, sheet, line):
        things = closer.things
        self.assertEqual([type(sheet), type(line)], [tuple, tuple])
        self.assertEqual(sheet, tuple(sorted(set(sheet))))
        self.assertLessEqual(len(sheet), 64)
        for one in sheet + (line,):
            self.assertTrue(type(one) is tuple and len(one) == len(things))
            self.assertTrue(all(type(value) is int and 0 <= value <= 1000 for value in one))
        self.assertTrue(keeps_all(closer, sheet))
        self.assertTrue(comes(things, sheet, parts, line))
        self.assertNotIn(line, sheet)
        self.assertEqual(tuple(len(part) for part in cut(things, sheet, parts)),
                         tuple(len({values_on(things, one, part) for one in sheet}) for part in parts))

    def test_the_line_comes_by_the_package_itself(self):
        for closer in closers_of("abc"):
            for parts in all_parts("abc"):
                found = losing(closer, parts)
                if found is not None:
                    sheet, line = found
                    self.assertIn(line, together("abc", cut("abc", sheet, parts), parts))

    def test_what_loses_nothing_does_so_by_no_sheet_of_two_values(self):
        lines = list(itertools.product(range(2), repeat=3))
        sheets = [some for size in range(1, 9) for some in itertools.combinations(lines, size)]
        for closer in closers_of("abc")[::2]:
            kept = [sheet for sheet in sheets if keeps_all(closer, sheet)]
            for parts in all_parts("abc"):
                if not loses(closer, parts):
                    for sheet in kept:
                        self.assertFalse([x for x in lines if x not in sheet and comes("abc", sheet, parts, x)])

    def test_two_parts(self):
        for closer in closers_of("abc") + some_closers("bdfh", 20, 38):
            for one, other in itertools.combinations(every_lot(closer.things), 2):
                if is_antichain((one, other)) and set(one + other) == set(closer.things):
                    around = set(closer.around("".join(x for x in one if x in other)))
                    self.assertIs(loses(closer, (one, other)), not (set(one) <= around or set(other) <= around))

    def test_one_part_alone_and_single_things(self):
        for closer in all_samples():
            things = closer.things
            width = len(things)
            self.assertEqual(trail(closer, (things,)), ((0,) * width,))
            self.assertEqual([loses(closer, (things,)), losing(closer, (things,))], [False, None])
            self.assertIs(keep_rules(closer, (things,)), True)
            singles = tuple(things)
            self.assertIs(keep_rules(closer, singles), keep_told(closer, singles))
            self.assertEqual(trail(closer, singles), trail_told(closer, singles, random.Random(2)))
        everything = by_rules("abc", ())
        self.assertEqual(trail(everything, ("a", "b", "c")), ((0, 1, 2), (3, 0, 4), (5, 6, 0)))
        self.assertIs(loses(everything, ("a", "b", "c")), True)
        self.assertEqual(trail(Closer("abc", ("abc",)), ("a", "b", "c")), ((0, 0, 0),) * 3)
        self.assertEqual(losing(Closer("abc", ("abc",)), ("a", "b", "c")), None)

    def test_thirty_five_and_thirty_six_parts(self):
        everything = by_rules(WIDE, ())
        whole = Closer(WIDE, (WIDE,))
        self.assertEqual(len(THREES), 35)
        lines = trail(everything, THREES)
        self.assertEqual([lines[0], lines[-1]], [(0, 0, 0, 1, 2, 3, 4), (137, 138, 139, 140, 0, 0, 0)])
        self.check_loss(everything, THREES, *losing(everything, THREES))
        self.assertEqual([loses(everything, THREES), loses(whole, THREES), losing(whole, THREES)], [True, False, None])
        self.assertIs(keep_rules(everything, THREES), True)
        for action in (trail, loses, losing, keep_rules):
            for last in ("efg", "g", "", "abcdefg", None, "z", ("g",)):
                self.check_raises(InvalidParts, 35, action, everything, THREES + (last,))
                self.check_raises(InvalidParts, 35, action, everything, THREES + (last, "?"))
            self.check_raises(InvalidParts, 34, action, everything, THREES[:34] + ("ef", "efg"))


class Keeping(Case):

    def test_exactly_if_the_rules_within_single_parts_lead_as_far(self):
        seen = []
        for closer, parts in cases():
            before = (str(closer), repr(parts))
            seen.append(keep_told(closer, parts))
            self.assertIs(keep_rules(closer, parts), seen[-1], before)
            self.assertEqual((str(closer), repr(parts)), before)
        self.assertGreater(min(seen.count(True), seen.count(False)), 100)

    def test_the_closer_of_the_book_of_all_rules_within_single_parts(self):
        for closer in closers_of("abc")[::3]:
            for parts in all_parts("abc"):
                book = {(one, other) for part in parts for one in every_lot(part) for other in every_lot(part)
                        if set(other) <= set(closer.around(one))}
                self.assertIs(keep_rules(closer, parts), by_rules("abc", tuple(book)) == closer)


class StrictAndMild(Case):

    def test_on_each_lot(self):
        for closer in all_samples():
            before = str(closer)
            for lot in every_lot(closer.things)[::1 if len(closer.things) < 7 else 9]:
                self.assertIs(is_strict(closer, lot), strict_told(closer, lot), (before, lot))
                self.assertIs(is_mild(closer, lot), mild_told(closer, lot), (before, lot))
                self.assertTrue(is_mild(closer, lot) or not is_strict(closer, lot))
            self.assertEqual(str(closer), before)

    def test_edges(self):
        for closer in all_samples():
            for lot in ("",) + tuple(closer.things):
                self.assertEqual([is_strict(closer, lot), is_mild(closer, lot)], [True, True])
        mild = by_rules("abc", (("ab", "c"), ("c", "b")))
        self.assertEqual([is_strict(mild, "abc"), is_mild(mild, "abc")], [False, True])
        self.assertEqual([is_strict(FOUR, "cd"), is_mild(FOUR, "abd"), is_mild(FOUR, "acd")], [True, True, False])
        self.assertEqual([is_strict(by_rules("ab", (("", "a"),)), "ab"), is_mild(by_rules("ab", (("", "a"),)), "ab")],
                         [False, False])

    def check_parts(self, closer, parts):
        self.assertIs(type(parts), tuple)
        self.assertEqual(parts, tuple(sorted(parts)))
        self.assertTrue(is_antichain(parts) and "" not in parts and set("".join(parts)) == set(closer.things))
        self.assertIn((0,) * len(closer.things), trail_told(closer, parts, random.Random(3)))
        self.assertIs(loses(closer, parts), False)

    def test_strict_parts(self):
        for closer in all_samples() + some_closers(WIDE, 20, 39):
            before = str(closer)
            found = strict_parts(closer)
            self.check_parts(closer, found)
            self.assertTrue(all(strict_told(closer, part) for part in found), (before, found))
            self.assertEqual(str(closer), before)

    def test_mild_parts(self):
        for closer in all_samples() + some_closers(WIDE, 20, 39):
            before = str(closer)
            found = mild_parts(closer)
            self.check_parts(closer, found)
            self.assertTrue(all(mild_told(closer, part) for part in found), (before, found))
            self.assertTrue(keep_told(closer, found), (before, found))
            self.assertEqual(str(closer), before)

    def test_parts_of_edges(self):
        for things in ("a", "abc", SEVEN):
            everything = Closer(things, tuple(every_lot(things)))
            self.assertEqual([strict_parts(everything), mild_parts(everything)], [(things,), (things,)])
            whole = Closer(things, (things,))
            for parts in (strict_parts(whole), mild_parts(whole)):
                self.check_parts(whole, parts)
        self.check_parts(FOUR, strict_parts(FOUR))
        # Here no strict parts keep the rules, so both kinds cannot be the same.
        both = by_rules("abc", (("ab", "c"), ("c", "b")))
        self.assertIs(keep_rules(both, mild_parts(both)), True)
        self.assertIs(keep_rules(both, strict_parts(both)), False)


class Calls(Case):

    def test_calls_and_wrong_inputs_of_parts(self):
        for action in (trail, loses, losing, keep_rules):
            for args in ((FOUR, ("abc", "cd")), (FOUR, ("ab", "cd")), (Closer("a", ("a",)), ("a",)),
                         (Closer("bz", ("bz",)), ("b", "z")), (LINE, ("a", "b", "c")),
                         (Closer(SEVEN, ("", SEVEN)), ("ace", "gikz"))):
                kinds = [(NotACloser, wrong_closers()), (InvalidParts, wrong_parts(args[0].things))]
                self.check_call(action, ("closer", "parts"), args, kinds)

    def test_calls_and_wrong_inputs_of_lots(self):
        for action in (is_strict, is_mild):
            for args in ((FOUR, "abc"), (Closer("a", ("a",)), ""), (Closer(SEVEN, ("", SEVEN)), "ac")):
                kinds = [(NotACloser, wrong_closers()), (InvalidLot, wrong_lots(args[0].things))]
                self.check_call(action, ("closer", "lot"), args, kinds)

    def test_calls_and_wrong_inputs_of_closers(self):
        for action in (strict_parts, mild_parts):
            for closer in (FOUR, Closer("a", ("a",)), Closer(SEVEN, ("", SEVEN))):
                self.check_call(action, ("closer",), (closer,), [(NotACloser, wrong_closers())])

    def test_parts_that_are_within_one_another_or_leave_things_out(self):
        for action in (trail, loses, losing, keep_rules):
            for parts, has in ((("abc", "b", "d"), 1), (("ab", "abc", "d"), 1), (("ab", "bc"), 2), (("abcd", ""), 1),
                               (("", "abcd"), 0), (("abc",), 1), ((), 0), (("cd", "ab"), 1), (("ab", "c", "cd"), 2),
                               (("abcd", "abcd"), 1), (("abd", "bcd", "c"), 2), (("ac", "b", "d", "e"), 3)):
                self.check_raises(InvalidParts, has, action, FOUR, parts)
            self.check_raises(InvalidParts, None, action, FOUR, ["abc", "cd"])
            self.check_raises(NotACloser, None, action, None, ())


class Module(unittest.TestCase):

    def test_all_is_defined_here(self):
        for name in ("trail", "loses", "losing", "keep_rules", "is_strict", "is_mild", "strict_parts", "mild_parts"):
            self.assertEqual(getattr(module, name).__module__, "closerworks.parts")


if __name__ == "__main__":
    unittest.main()
