"""[2], [10] Rules: what holds, and what follows."""

import unittest

from closerworks import rules as module
from closerworks.closers import Closer
from closerworks.errors import InvalidBook, InvalidLot, InvalidRule, InvalidThings, NotACloser
from closerworks.rules import around_by, bar, breaker, follows, holds, steps
from closerworks.telling import by_rules
from tests.helpers import (Case, around_in, closed_by_book, every_lot, example_closers, keeps_rule, sample_closers,
                           some_books, wrong_books, wrong_closers, wrong_lots, wrong_rules, wrong_things)

SEVEN = "acegikz"
FLAT, LINE, FOUR = example_closers()
TWO = (("c", "d"), ("ab", "c"))


def all_rules(things):
    return [(one, other) for one in every_lot(things) for other in every_lot(things)]


def steps_told(book, lot):
    """The steps, made over sets by the words of the document."""
    come, found = set(lot), []
    while True:
        broken = [at for at, (needed, added) in enumerate(book) if set(needed) <= come and not set(added) <= come]
        if not broken:
            return tuple(found)
        found.append(broken[0])
        come |= set(book[broken[0]][1])


def books_of(things):
    """Books of rules between lots of three things: none, one rule, some more."""
    yield ()
    for rule in all_rules(things):
        yield (rule,)
    yield from some_books(things, 60, 5)


class Examples(unittest.TestCase):

    def test_example(self):
        line, four = LINE, FOUR
        two = (("c", "d"), ("ab", "c"))
        self.assertEqual(
            [holds(four, ("ab", "d")), holds(four, ("d", "c")), breaker(line, ("a", "b")), around_by("abcd", two, "ab"), steps("abcd", two, "ab"), follows("abcd", two, ("ab", "abcd")), bar("abcd", two, ("ad", "b")) in ("ad", "acd")],
            [True, False, 'a', 'abcd', (1, 0), True, True])


class Holding(Case):

    def check_closer(self, closer, rules):
        before = str(closer)
        for rule in rules:
            broken = [lot for lot in closer.closed if not keeps_rule(lot, rule)]
            self.assertIs(holds(closer, rule), not broken)
            if broken:
                self.assertIn(breaker(closer, rule), broken)
            else:
                self.assertIsNone(breaker(closer, rule))
        self.assertEqual(str(closer), before)

    def test_a_rule_holds_exactly_if_all_closed_lots_keep_it(self):
        for closer in sample_closers():
            self.check_closer(closer, all_rules(closer.things)[::1 if len(closer.things) < 5 else 53])

    def test_edges(self):
        for things in ("a", "abc", SEVEN):
            everything = by_rules(things, ())
            whole = Closer(things, (things,))
            self.assertEqual([holds(everything, ("", "")), holds(everything, (things, things))], [True, True])
            self.assertEqual([holds(everything, ("", things)), breaker(everything, ("", things))], [False, ""])
            self.assertEqual([holds(whole, ("", things)), breaker(whole, ("", things))], [True, None])

    def test_calls_and_wrong_inputs(self):
        for action in (holds, breaker):
            for args in ((FOUR, ("ab", "d")), (Closer("a", ("", "a")), ("", "a")), (Closer(SEVEN, (SEVEN,)), ("z", "ac"))):
                kinds = [(NotACloser, wrong_closers()), (InvalidRule, wrong_rules(args[0].things))]
                self.check_call(action, ("closer", "rule"), args, kinds)

    def test_lots_of_other_things_are_no_rule(self):
        for action in (holds, breaker):
            self.check_raises(InvalidRule, None, action, FOUR, None)
            for rule in (("ab", "e"), ("e", "ab"), ("ba", "c"), ("a", "b", "c"), ["a", "b"], ("a",), "ab"):
                self.check_raises(InvalidRule, rule, action, FOUR, rule)


class Following(Case):

    def check_lots(self, things, book):
        closed = closed_by_book(things, book)
        for lot in every_lot(things):
            self.assertEqual(around_by(things, book, lot), around_in(things, closed, lot), (book, lot))
            self.assertEqual(steps(things, book, lot), steps_told(book, lot), (book, lot))
        return closed

    def check_rules(self, things, book, rules, closed):
        for rule in rules:
            bars = [lot for lot in closed if not keeps_rule(lot, rule)]
            self.assertIs(follows(things, book, rule), not bars, (book, rule))
            found = bar(things, book, rule)
            if bars:
                self.assertIn(found, bars, (book, rule))
            else:
                self.assertIsNone(found, (book, rule))

    def test_all_rules_between_lots_of_three_things(self):
        for book in books_of("abc"):
            closed = self.check_lots("abc", book)
            self.check_rules("abc", book, all_rules("abc")[::3], closed)

    def test_one_thing(self):
        for book in books_of("k"):
            closed = self.check_lots("k", book)
            self.check_rules("k", book, all_rules("k"), closed)

    def test_seven_things(self):
        for book in some_books(SEVEN, 20, 6):
            closed = self.check_lots(SEVEN, book)
            self.check_rules(SEVEN, book, all_rules(SEVEN)[::97], closed)

    def test_as_by_the_closer_of_the_book(self):
        for book in some_books("bdfhj", 20, 7):
            closer = by_rules("bdfhj", book)
            for lot in every_lot("bdfhj"):
                self.assertEqual(around_by("bdfhj", book, lot), closer.around(lot))
            for rule in all_rules("bdfhj")[::7]:
                self.assertEqual(follows("bdfhj", book, rule), holds(closer, rule))

    def test_the_first_rule_that_is_not_kept_is_used_each_time(self):
        book = (("abc", "d"), ("b", "c"), ("a", "b"), ("a", "b"), ("b", "a"), ("", "a"))
        self.assertEqual(steps("abcd", book, ""), (5, 2, 1, 0))
        self.assertEqual(steps("abcd", book, "a"), (2, 1, 0))
        self.assertEqual(steps("abcd", book, "b"), (1, 4, 0))
        self.assertEqual(steps("abcd", book, "abcd"), ())
        self.assertEqual(steps("abcd", TWO, "abc"), (0,))
        self.assertEqual(steps("abcd", TWO, "ad"), ())
        ends = tuple((SEVEN[at], SEVEN[at + 1]) for at in range(6))[::-1]
        self.assertEqual(steps(SEVEN, ends, "a"), (5, 4, 3, 2, 1, 0))
        self.assertEqual(steps(SEVEN, ends + (("", "a"),), ""), (6, 5, 4, 3, 2, 1, 0))

    def test_a_book_without_rules(self):
        for things in ("a", "abc", SEVEN):
            for lot in every_lot(things):
                self.assertEqual([around_by(things, (), lot), steps(things, (), lot)], [lot, ()])
            self.assertEqual([follows(things, (), ("", things)), bar(things, (), ("", things))], [False, ""])
            self.assertEqual([follows(things, (), (things, "")), bar(things, (), (things, ""))], [True, None])

    def test_two_hundred_and_one_rules(self):
        book = (("b", "c"),) * 199 + (("a", "b"),)
        self.assertEqual([around_by("abc", book, "a"), steps("abc", book, "a")], ["abc", (199, 0)])
        self.assertEqual([follows("abc", book, ("a", "c")), bar("abc", book, ("a", "c"))], [True, None])
        for action, last in ((around_by, "a"), (steps, "a"), (follows, ("a", "c")), (bar, ("a", "c"))):
            self.check_raises(InvalidBook, 200, action, "abc", book + (("a", "b"),), last)
            self.check_raises(InvalidBook, 200, action, "abc", book + ("?", "?"), None)
            self.check_raises(InvalidBook, 3, action, "abc", book[:3] + ("?",) + book, last)

    def test_calls_and_wrong_inputs_of_lots(self):
        for action in (around_by, steps):
            for args in (("abcd", TWO, "ab"), ("a", (), ""), (SEVEN, (("", "z"), ("kz", "eg")), "ak")):
                kinds = [(InvalidThings, wrong_things()), (InvalidBook, wrong_books(args[0])),
                         (InvalidLot, wrong_lots(args[0]))]
                self.check_call(action, ("things", "book", "lot"), args, kinds)

    def test_calls_and_wrong_inputs_of_rules(self):
        for action in (follows, bar):
            for args in (("abcd", TWO, ("ad", "b")), ("a", (), ("", "a")), (SEVEN, (("", "z"),), ("a", "z"))):
                kinds = [(InvalidThings, wrong_things()), (InvalidBook, wrong_books(args[0])),
                         (InvalidRule, wrong_rules(args[0]))]
                self.check_call(action, ("things", "book", "rule"), args, kinds)


class Module(unittest.TestCase):

    def test_all_is_defined_here(self):
        for name in ("holds", "breaker", "around_by", "steps", "follows", "bar"):
            self.assertEqual(getattr(module, name).__module__, "closerworks.rules")


if __name__ == "__main__":
    unittest.main()
