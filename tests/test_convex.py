"""[2], [22] Convex closers, swaps and ends."""

import unittest

from closerworks import convex as module
from closerworks.closers import Closer
from closerworks.convex import ends, is_convex, more_by_one, swap
from closerworks.errors import InvalidLot, NotACloser
from closerworks.telling import by_family, by_rules
from closerworks.topologies import by_leads
from tests.helpers import (Case, as_lot, closers_of, every_lot, example_closers, sample_closers, some_closers,
                           swaps_told, wrong_closers, wrong_lots)

SEVEN = "acegikz"
FLAT, LINE, FOUR = example_closers()
# The rows of things beside one another: what lies between two of them is in the lot around both.
BETWEEN = by_family("abcdefg", tuple(sorted("abcdefg"[at:end] for at in range(7) for end in range(at + 1, 8))))


def all_samples():
    return [BETWEEN] + sample_closers() + closers_of("abc") + some_closers("bdfh", 20, 77)


def ends_told(closer, lot):
    return as_lot(x for x in lot if x not in closer.around(lot.replace(x, "")))


class Examples(unittest.TestCase):

    def test_examples(self):
        flat, line, four = FLAT, LINE, FOUR
        fork = by_leads("abc", ("ab", "ac"))
        self.assertEqual(
            [is_convex(line), is_convex(flat), is_convex(fork), swap(line), ends(line, "abc"), ends(flat, "abc"), ends(four, "abcd"), more_by_one(line, "a"), more_by_one(four, "d")],
            [True, False, True, None, 'ac', '', 'ab', 'b', 'abc'])
        self.assertEqual(
            [swap(flat) in (("a", "b", "c"), ("a", "c", "b"), ("b", "a", "c"), ("b", "c", "a"), ("c", "a", "b"), ("c", "b", "a")), swap(Closer("ab", ("a", "ab")))],
            [True, ()])


class Convex(Case):

    def test_exactly_the_closers_without_a_swap(self):
        seen = []
        for closer in all_samples():
            before = str(closer)
            told = swaps_told(closer)
            found = swap(closer)
            self.assertIs(is_convex(closer), closer.is_closed("") and not told, before)
            if not closer.is_closed(""):
                self.assertEqual((type(found), found), (tuple, ()))
            elif told:
                self.assertIs(type(found), tuple)
                self.assertIn(found, told)
            else:
                self.assertIsNone(found)
            seen.append(is_convex(closer))
            self.assertEqual(str(closer), before)
        self.assertGreater(min(seen.count(True), seen.count(False)), 20)

    def test_what_says_the_same(self):
        for closer in all_samples():
            if closer.is_closed(""):
                lesser = [lot for lot in closer.closed if lot != closer.things]
                self.assertIs(all(more_by_one(closer, lot) != "" for lot in lesser), is_convex(closer))
                spanned = all(closer.around(ends(closer, lot)) == lot for lot in closer.closed)
                self.assertIs(spanned, is_convex(closer))

    def test_edges(self):
        for things in ("a", "abc", SEVEN):
            whole = Closer(things, (things,))
            everything = Closer(things, tuple(every_lot(things)))
            self.assertEqual([is_convex(whole), swap(whole)], [False, ()])
            self.assertEqual([is_convex(everything), swap(everything)], [True, None])
        self.assertEqual([is_convex(Closer("a", ("", "a"))), swap(Closer("a", ("", "a")))], [True, None])
        self.assertIn(swap(Closer("bz", ("", "bz"))), (("", "b", "z"), ("", "z", "b")))
        self.assertIs(is_convex(BETWEEN), True)
        # The empty lot is looked at first.
        self.assertEqual(swap(Closer("abc", ("a", "abc"))), ())
        self.assertIn(swap(by_rules("abc", (("ab", "c"), ("ac", "b")))), (("a", "b", "c"), ("a", "c", "b")))


class Lots(Case):

    def test_ends_and_what_is_added_alone(self):
        for closer in all_samples():
            before = str(closer)
            for lot in every_lot(closer.things)[::1 if len(closer.things) < 7 else 5]:
                self.assertEqual(ends(closer, lot), ends_told(closer, lot), (before, lot))
                around = closer.around(lot)
                told = as_lot(x for x in closer.things if x not in around and as_lot(around + x) in closer.closed)
                self.assertEqual(more_by_one(closer, lot), told, (before, lot))
            self.assertEqual(str(closer), before)

    def test_edges(self):
        for things in ("a", "abc", SEVEN):
            whole = Closer(things, (things,))
            everything = Closer(things, tuple(every_lot(things)))
            for lot in every_lot(things):
                self.assertEqual([ends(whole, lot), more_by_one(whole, lot)], ["", ""])
                self.assertEqual([ends(everything, lot), more_by_one(everything, lot)],
                                 [lot, as_lot(set(things) - set(lot))])
        self.assertEqual([ends(BETWEEN, "abcdefg"), ends(BETWEEN, "bdf"), more_by_one(BETWEEN, "bd")], ["ag", "bf", "ae"])
        self.assertEqual(more_by_one(BETWEEN, ""), "abcdefg")
        # The ends of a lot that is not closed, and what is added to the lot around it.
        self.assertEqual([ends(LINE, "ac"), more_by_one(LINE, "ac"), more_by_one(FOUR, "c")], ["ac", "", "ab"])

    def test_calls_and_wrong_inputs(self):
        for action in (ends, more_by_one):
            for args in ((FOUR, "cd"), (Closer("a", ("a",)), ""), (Closer(SEVEN, ("", SEVEN)), "ac")):
                kinds = [(NotACloser, wrong_closers()), (InvalidLot, wrong_lots(args[0].things))]
                self.check_call(action, ("closer", "lot"), args, kinds)
        for action in (is_convex, swap):
            for closer in (LINE, FLAT, Closer("a", ("a",)), Closer(SEVEN, ("", SEVEN))):
                self.check_call(action, ("closer",), (closer,), [(NotACloser, wrong_closers())])


class Module(unittest.TestCase):

    def test_all_is_defined_here(self):
        for name in ("is_convex", "swap", "ends", "more_by_one"):
            self.assertEqual(getattr(module, name).__module__, "closerworks.convex")


if __name__ == "__main__":
    unittest.main()
