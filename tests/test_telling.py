"""[2], [9], [10] Closers told in several ways, and corners."""

import unittest

from closerworks import telling as module
from closerworks.closers import Closer
from closerworks.errors import InvalidBook, InvalidFamily, InvalidLot, InvalidRows, InvalidThings, NotACloser
from closerworks.telling import as_text, by_family, by_rows, by_rules, corners
from tests.helpers import (Case, closed_by_book, every_family, every_lot, example_closers, meets_by_subsets,
                           sample_closers, some_books, some_families, wrong_any_lots, wrong_books, wrong_closers,
                           wrong_families, wrong_things, wrong_tuples_of_lots)

SEVEN = "acegikz"
FLAT, LINE, FOUR = example_closers()


def corners_told(closer):
    """The closed lots, not the whole, without which the others have not all meets."""
    found = []
    for lot in closer.closed:
        wider = tuple(other for other in closer.closed if set(other) > set(lot))
        together = "".join(x for x in closer.things if all(x in other for other in wider))
        if lot != closer.things and together != lot:
            found.append(lot)
    return tuple(found)


class Examples(unittest.TestCase):

    def test_example(self):
        flat = Closer("abc", ("", "a", "abc", "b", "c"))
        line = by_rules("abc", (("ac", "b"),))
        four = by_rules("abcd", (("ab", "c"), ("c", "d")))
        self.assertEqual(
            [line.closed, four.closed, by_family("abc", ("a", "b", "c")) == flat, by_rows("abc", ("c", "b", "a", "b")) == flat, corners(four), corners(line)],
            [('', 'a', 'ab', 'abc', 'b', 'bc', 'c'), ('', 'a', 'abcd', 'acd', 'ad', 'b', 'bcd', 'bd', 'cd', 'd'), True, True, ('a', 'acd', 'ad', 'b', 'bcd', 'bd'), ('a', 'ab', 'bc', 'c')])


class ByFamily(Case):

    def test_the_closed_lots_are_the_meets(self):
        for things in ("a", "bz", "abc"):
            for family in every_family(things):
                closer = by_family(things, family)
                self.assertIs(type(closer), Closer)
                self.assertEqual((closer.things, closer.closed), (things, meets_by_subsets(things, family)))
        for family in some_families(SEVEN, 25, 3):
            self.assertEqual(by_family(SEVEN, family).closed, meets_by_subsets(SEVEN, family))

    def test_edges(self):
        for things in ("a", "abc", SEVEN):
            self.assertEqual(by_family(things, ()).closed, (things,))
            self.assertEqual(by_family(things, ("",)).closed, ("", things))
            self.assertEqual(by_family(things, tuple(every_lot(things))).closed, tuple(every_lot(things)))

    def test_calls_and_wrong_inputs(self):
        for args in (("abc", ("a", "bc")), ("a", ()), (SEVEN, ("ac", "z"))):
            kinds = [(InvalidThings, wrong_things()), (InvalidFamily, wrong_families(args[0]))]
            self.check_call(by_family, ("things", "family"), args, kinds)


class ByRules(Case):

    def test_the_closed_lots_are_those_that_keep_all_rules(self):
        for things in ("a", "by", "abc"):
            lots = every_lot(things)
            rules = [(one, other) for one in lots for other in lots]
            for first in rules:
                for book in ((first,), (first, rules[-7 % len(rules)]), (rules[len(rules) // 3], first)):
                    self.assertEqual(by_rules(things, book).closed, closed_by_book(things, book), book)
        for book in some_books(SEVEN, 60, 4):
            closer = by_rules(SEVEN, book)
            self.assertIs(type(closer), Closer)
            self.assertEqual((closer.things, closer.closed), (SEVEN, closed_by_book(SEVEN, book)), book)

    def test_edges(self):
        for things in ("a", "abc", SEVEN):
            self.assertEqual(by_rules(things, ()).closed, tuple(every_lot(things)))
            self.assertEqual(by_rules(things, (("", things),)).closed, (things,))
            self.assertEqual(by_rules(things, (("", ""), (things, ""), (things, things))).closed, tuple(every_lot(things)))

    def test_two_hundred_rules(self):
        book = (("a", "b"),) * 199 + (("b", "c"),)
        self.assertEqual(by_rules("abc", book).closed, ("", "abc", "bc", "c"))
        self.check_raises(InvalidBook, 200, by_rules, "abc", book + (("b", "c"),))
        self.check_raises(InvalidBook, 7, by_rules, "abc", book[:7] + (("b", "d"),) + book)

    def test_calls_and_wrong_inputs(self):
        for args in (("abc", (("ac", "b"),)), ("a", ()), (SEVEN, (("", "a"), ("gz", "ck")))):
            kinds = [(InvalidThings, wrong_things()), (InvalidBook, wrong_books(args[0]))]
            self.check_call(by_rules, ("things", "book"), args, kinds)


class ByRows(Case):

    def test_the_closed_lots_are_the_meets_of_the_rows(self):
        for things in ("a", "by", "abc"):
            for family in every_family(things):
                for rows in (family, family[::-1], family + family, family[1:] + family[:1]):
                    closer = by_rows(things, rows)
                    self.assertIs(type(closer), Closer)
                    self.assertEqual((closer.things, closer.closed), (things, meets_by_subsets(things, family)), rows)

    def test_edges(self):
        for things in ("a", "abc", SEVEN):
            self.assertEqual(by_rows(things, ()).closed, (things,))
            self.assertEqual(by_rows(things, (things,)).closed, (things,))
            self.assertEqual(by_rows(things, ("", things, "", "")).closed, ("", things))

    def test_sixty_rows(self):
        lots = every_lot(SEVEN)
        self.assertEqual(by_rows(SEVEN, tuple(lots[::-1][:60])), by_family(SEVEN, tuple(sorted(lots[::-1][:60]))))
        self.assertEqual(by_rows("abc", ("a",) * 59 + ("b",)).closed, ("", "a", "abc", "b"))
        self.check_raises(InvalidRows, 60, by_rows, "abc", ("a",) * 61)
        self.check_raises(InvalidRows, 60, by_rows, SEVEN, tuple(lots))
        self.check_raises(InvalidRows, 59, by_rows, "abc", ("a",) * 59 + ("d",) + ("a",) * 20)

    def test_calls_and_wrong_inputs(self):
        for args in (("abc", ("c", "b", "a", "b")), ("a", ()), (SEVEN, ("z", "ack", ""))):
            kinds = [(InvalidThings, wrong_things()), (InvalidRows, wrong_tuples_of_lots(args[0], 60))]
            self.check_call(by_rows, ("things", "rows"), args, kinds)


class Corners(Case):

    def test_what_a_corner_is(self):
        for closer in sample_closers():
            before = str(closer)
            self.assertEqual(corners(closer), corners_told(closer), str(closer))
            self.assertEqual(str(closer), before)

    def test_the_corners_tell_the_closer_and_no_lesser_table_does(self):
        for closer in sample_closers():
            found = corners(closer)
            self.assertEqual(by_family(closer.things, found), closer)
            self.assertEqual(by_rows(closer.things, found[::-1]), closer)
            for at in range(len(found)):
                self.assertNotEqual(by_family(closer.things, found[:at] + found[at + 1:]), closer)

    def test_edges(self):
        for things in ("a", "abc", SEVEN):
            self.assertEqual(corners(Closer(things, (things,))), ())
            self.assertEqual(corners(Closer(things, ("", things))), ("",))
        self.assertEqual(corners(by_rules(SEVEN, ())), tuple(lot for lot in every_lot(SEVEN) if len(lot) == 6))

    def test_calls_and_wrong_inputs(self):
        for closer in (FLAT, FOUR, Closer("a", ("a",))):
            self.check_call(corners, ("closer",), (closer,), [(NotACloser, wrong_closers())])


class OneCloser(Case):

    def test_tellings_of_one_closer_meet(self):
        for closer in sample_closers():
            # Each lot leads to the one around it: a book of the closer, and often a long one.
            book = tuple((lot, closer.around(lot)) for lot in every_lot(closer.things))
            for again in (by_rules(closer.things, book), by_family(closer.things, closer.closed),
                          Closer.read(str(closer)), by_rows(closer.things, corners(closer) + (closer.things,))):
                self.assertTrue(again == closer)
                self.assertEqual(again.closed, closer.closed)

    def test_tellings_of_other_closers_are_told_to_be_others(self):
        self.assertFalse(by_rules("abc", (("a", "b"),)) == by_rules("abc", (("b", "a"),)))
        self.assertTrue(by_rules("abc", (("a", "b"), ("b", "c"))) == by_rules("abc", (("b", "c"), ("a", "bc"))))
        self.assertFalse(by_rules("ab", ()) == by_rules("ac", ()))


class AsText(Case):

    def test_each_lot(self):
        self.assertEqual([as_text(""), as_text("a"), as_text("bz"), as_text(SEVEN), as_text("tuvwxyz")],
                         ["-", "a", "bz", SEVEN, "tuvwxyz"])
        for lot in every_lot("acz")[1:]:
            self.assertEqual(as_text(lot), lot)

    def test_calls_and_wrong_inputs(self):
        for lot in ("", "a", SEVEN):
            self.check_call(as_text, ("lot",), (lot,), [(InvalidLot, wrong_any_lots())])


class Module(unittest.TestCase):

    def test_all_is_defined_here(self):
        for name in ("by_family", "by_rules", "by_rows", "corners", "as_text"):
            self.assertEqual(getattr(module, name).__module__, "closerworks.telling")


if __name__ == "__main__":
    unittest.main()
