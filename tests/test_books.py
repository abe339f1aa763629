"""[2], [10], [11], [12] Books of closers: stops, the stem, needless rules, reasons and the plain book."""

import itertools
import unittest

from closerworks import books as module
from closerworks.books import is_of, needless, plain_book, reasons, stem, stops
from closerworks.closers import Closer
from closerworks.errors import InvalidBook, InvalidThings, NotACloser, UnknownThing
from closerworks.telling import by_rules
from tests.helpers import (Case, as_lot, closed_by_book, closers_of, every_lot, example_closers, keeps_rule,
                           sample_closers, some_books, some_closers, wrong_books, wrong_closers, wrong_single_things,
                           wrong_things)

SEVEN = "acegikz"
FLAT, LINE, FOUR = example_closers()
TWO = (("c", "d"), ("ab", "c"))


def all_samples():
    return sample_closers() + closers_of("abc") + some_closers("bdfh", 20, 7)


def stops_told(closer):
    """The stops, looked for by the words of the document, each one through those within it."""
    known = {}

    def is_stop(lot):
        if lot not in known:
            lesser = [part for part in every_lot(lot) if part != lot and is_stop(part)]
            known[lot] = closer.around(lot) != lot and all(set(closer.around(part)) <= set(lot) for part in lesser)
        return known[lot]

    return tuple(lot for lot in every_lot(closer.things) if is_stop(lot))


def reasons_told(closer, thing):
    """The lots without a thing around which it is, not so for what one thing less leaves of them."""
    found = []
    for lot in every_lot(closer.things):
        lesser = [lot.replace(letter, "") for letter in lot]
        if thing not in lot and thing in closer.around(lot) and not any(thing in closer.around(x) for x in lesser):
            found.append(lot)
    return tuple(found)


class Examples(unittest.TestCase):

    def test_example(self):
        flat, line, four, two = FLAT, LINE, FOUR, TWO
        self.assertEqual(
            [stops(four), stem(four), stem(line), is_of(four, two), is_of(four, two[:1]), needless("abcd", two + (("ab", "d"),)), reasons(four, "d"), plain_book(four), stem(flat)],
            [('ab', 'c'), (('ab', 'abcd'), ('c', 'cd')), (('ac', 'abc'),), True, False, (2,), ('ab', 'c'), (('ab', 'c'), ('ab', 'd'), ('c', 'd')), (('ab', 'abc'), ('ac', 'abc'), ('bc', 'abc'))])


class Stem(Case):

    def test_what_a_stop_is(self):
        for closer in all_samples():
            before = str(closer)
            found = stops(closer)
            self.assertIs(type(found), tuple)
            self.assertEqual(found, stops_told(closer), before)
            self.assertEqual(stem(closer), tuple((lot, closer.around(lot)) for lot in found), before)
            self.assertEqual(str(closer), before)

    def test_the_stem_is_a_book_of_the_closer_and_no_rule_of_it_is_needless(self):
        for closer in all_samples():
            book = stem(closer)
            self.assertEqual(list(book), sorted(book))
            self.assertEqual(closed_by_book(closer.things, book), closer.closed)
            self.assertIs(is_of(closer, book), True)
            self.assertEqual(needless(closer.things, book), ())
            for at in range(len(book)):
                self.assertIs(is_of(closer, book[:at] + book[at + 1:]), False)

    def test_no_book_of_the_closer_has_fewer_rules(self):
        for closer in closers_of("ab") + closers_of("abc"):
            # A rule that holds follows from the one with all of the lot around IF, so these rules are enough to try.
            rules = [(lot, closer.around(lot)) for lot in every_lot(closer.things) if not closer.is_closed(lot)]
            fewer = len(stem(closer)) - 1
            for book in itertools.combinations(rules, max(fewer, 0)):
                if fewer >= 0:
                    self.assertNotEqual(closed_by_book(closer.things, book), closer.closed)

    def test_edges(self):
        for things in ("a", "abc", SEVEN):
            whole = Closer(things, (things,))
            everything = Closer(things, tuple(every_lot(things)))
            self.assertEqual([stops(whole), stem(whole)], [("",), (("", things),)])
            self.assertEqual([stops(everything), stem(everything)], [(), ()])
        threes = Closer("abcdefg", tuple(lot for lot in every_lot("abcdefg") if len(lot) < 3 or len(lot) == 7))
        self.assertEqual(stops(threes), tuple(lot for lot in every_lot("abcdefg") if len(lot) == 3))
        self.assertEqual(len(stem(threes)), 35)
        # The lot around a stop within a lot has to be within it, but for itself.
        two_steps = by_rules("abc", (("a", "b"), ("b", "c")))
        self.assertEqual(stem(two_steps), (("a", "abc"), ("b", "bc")))

    def test_calls_and_wrong_inputs(self):
        for action in (stops, stem):
            for closer in (FOUR, Closer("a", ("a",)), Closer(SEVEN, ("", SEVEN))):
                self.check_call(action, ("closer",), (closer,), [(NotACloser, wrong_closers())])


class IsOf(Case):

    def test_exactly_the_books_of_which_it_is_the_closer(self):
        for closer in closers_of("abc")[::3] + [FLAT, LINE]:
            for book in list(some_books("abc", 60, 8)) + [stem(closer), stem(closer)[::-1], plain_book(closer)]:
                before = (str(closer), repr(book))
                self.assertIs(is_of(closer, book), closed_by_book("abc", book) == closer.closed)
                self.assertEqual((str(closer), repr(book)), before)

    def test_seven_things(self):
        for book in some_books(SEVEN, 8, 9):
            closer = by_rules(SEVEN, book)
            self.assertIs(is_of(closer, book), True)
            self.assertIs(is_of(closer, book + book[:1] + (("", ""),)), True)
            self.assertIs(is_of(closer, tuple((lot, closer.around(lot)) for lot in every_lot(SEVEN))), True)
            self.assertIs(is_of(closer, ()), len(closer) == 128)

    def test_books_of_none_and_of_two_hundred_rules(self):
        everything = by_rules("abc", ())
        self.assertIs(is_of(everything, ()), True)
        self.assertIs(is_of(LINE, ()), False)
        self.assertIs(is_of(LINE, (("", ""),) * 199 + (("ac", "b"),)), True)
        self.assertIs(is_of(LINE, (("", ""),) * 200), False)
        self.check_raises(InvalidBook, 200, is_of, LINE, (("ac", "b"),) * 201)
        self.check_raises(InvalidBook, 5, is_of, LINE, (("ac", "b"),) * 5 + (("ac", "d"),) * 200)

    def test_calls_and_wrong_inputs(self):
        for args in ((FOUR, TWO), (Closer("a", ("a",)), ()), (Closer(SEVEN, (SEVEN,)), (("", SEVEN),))):
            kinds = [(NotACloser, wrong_closers()), (InvalidBook, wrong_books(args[0].things))]
            self.check_call(is_of, ("closer", "book"), args, kinds)


class Needless(Case):

    def check_book(self, things, book):
        told = []
        for at, rule in enumerate(book):
            others = closed_by_book(things, book[:at] + book[at + 1:])
            if all(keeps_rule(lot, rule) for lot in others):
                told.append(at)
        self.assertEqual(needless(things, book), tuple(told), book)

    def test_each_rule_that_follows_from_the_others(self):
        for things, seed in (("a", 1), ("bz", 2), ("abc", 3), ("bdfhj", 4), (SEVEN, 5)):
            for book in some_books(things, 40 if len(things) < 7 else 10, seed):
                self.check_book(things, book)
                self.check_book(things, book + book[:2])

    def test_edges(self):
        self.assertEqual(needless("a", ()), ())
        self.assertEqual(needless("abc", (("", ""),)), (0,))
        self.assertEqual(needless("abc", (("ab", "a"), ("c", "c"))), (0, 1))
        # Of rules alike each one follows from the others.
        self.assertEqual(needless("abc", (("a", "b"), ("a", "b"))), (0, 1))
        self.assertEqual(needless("abc", (("a", "b"), ("b", "c"), ("a", "c"))), (2,))
        self.assertEqual(needless("abc", (("a", "bc"), ("a", "b"), ("a", "c"))), (0, 1, 2))

    def test_two_hundred_rules(self):
        book = (("a", "b"),) * 199 + (("b", "c"),)
        self.assertEqual(needless("abc", book), tuple(range(199)))
        lots = [lot for lot in every_lot(SEVEN) if lot]
        wide = tuple((lot, SEVEN) for lot in lots) + tuple(("", lot) for lot in lots[:73])
        self.assertEqual(len(wide), 200)
        self.check_book(SEVEN, wide)
        self.check_raises(InvalidBook, 200, needless, "abc", book + (("b", "c"),))

    def test_calls_and_wrong_inputs(self):
        for args in (("abcd", TWO + (("ab", "d"),)), ("a", ()), (SEVEN, (("", "z"),))):
            kinds = [(InvalidThings, wrong_things()), (InvalidBook, wrong_books(args[0]))]
            self.check_call(needless, ("things", "book"), args, kinds)


class PlainBook(Case):

    def test_what_a_reason_is(self):
        for closer in all_samples():
            before = str(closer)
            for thing in closer.things:
                found = reasons(closer, thing)
                self.assertIs(type(found), tuple)
                self.assertEqual(found, reasons_told(closer, thing), (before, thing))
            self.assertEqual(str(closer), before)

    def test_the_plain_book_has_all_reasons(self):
        for closer in all_samples():
            rules = sorted((reason, thing) for thing in closer.things for reason in reasons_told(closer, thing))
            self.assertEqual(plain_book(closer), tuple(rules))
            self.assertIs(is_of(closer, plain_book(closer)), True)

    def test_one_look_is_enough(self):
        for closer in all_samples():
            book = plain_book(closer)
            for lot in every_lot(closer.things):
                come = [thing for reason, thing in book if set(reason) <= set(lot)]
                self.assertEqual(as_lot(lot + "".join(come)), closer.around(lot))

    def test_edges(self):
        for things in ("a", "abc", SEVEN):
            whole = Closer(things, (things,))
            everything = Closer(things, tuple(every_lot(things)))
            self.assertEqual(plain_book(whole), tuple(("", thing) for thing in things))
            self.assertEqual(plain_book(everything), ())
            for thing in things:
                self.assertEqual([reasons(whole, thing), reasons(everything, thing)], [("",), ()])
        fours = Closer("abcdefg", tuple(lot for lot in every_lot("abcdefg") if len(lot) < 3 or len(lot) == 7))
        self.assertEqual(len(reasons(fours, "g")), 20)
        self.assertEqual(len(plain_book(fours)), 140)

    def test_calls_and_wrong_inputs(self):
        for args in ((FOUR, "d"), (Closer("a", ("a",)), "a"), (Closer(SEVEN, (SEVEN,)), "k")):
            kinds = [(NotACloser, wrong_closers()), (UnknownThing, wrong_single_things(args[0].things))]
            self.check_call(reasons, ("closer", "thing"), args, kinds)
            self.check_call(plain_book, ("closer",), args[:1], kinds[:1])


class Module(unittest.TestCase):

    def test_all_is_defined_here(self):
        for name in ("stops", "stem", "is_of", "needless", "reasons", "plain_book"):
            self.assertEqual(getattr(module, name).__module__, "closerworks.books")


if __name__ == "__main__":
    unittest.main()
