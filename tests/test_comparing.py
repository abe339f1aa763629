"""[2], [8] Closers compared, and made from one another."""

import itertools
import unittest

from closerworks import comparing as module
from closerworks.closers import Closer
from closerworks.comparing import all_closers, is_finer, kept, mixed, renamed, shared, shut
from closerworks.errors import (InvalidLetters, InvalidLot, InvalidThings, NotACloser, OtherThings, TooFew, TooMany)
from closerworks.telling import by_family, by_rules
from tests.helpers import (Case, all_systems_of, as_lot, every_lot, example_closers, meets_by_subsets, odd_tuples,
                           odd_values, odd_words, sample_closers, wrong_closers, wrong_lots, wrong_things)

SEVEN = "acegikz"
FLAT, LINE, FOUR = example_closers()
OF_TWO = (is_finer, shared, mixed)


def closers_of(things):
    return [Closer(things, closed) for closed in all_systems_of(things)]


def wrong_letters(many):
    """Values that are no strings of so many unlike letters."""
    letters = "zyxwvutsrq"[:many]
    values = odd_values() + odd_tuples() + [word for word in odd_words() if not self_fits(word, many)]
    values += [(), tuple(letters), list(letters), letters[1:], letters + "a", letters[1:] + letters[1:2] * (many > 1),
               letters[1:] + "A", letters[1:] + " ", letters[1:] + "-", letters[1:] + "{", letters[1:] + "`",
               letters[1:] + "1", letters[1:] + "\n", letters + "\n", letters + letters, "abcdefghij"]
    return [(value, value) for value in values]


def self_fits(word, many):
    return len(word) == many == len(set(word)) and all("a" <= sign <= "z" for sign in word)


class Examples(unittest.TestCase):

    def test_example(self):
        flat, line, four = FLAT, LINE, FOUR
        self.assertEqual(
            [is_finer(line, flat), is_finer(flat, line), shared(line, flat).closed, mixed(line, flat) == line, kept(four, "ab").closed, shut(four, "c").closed, renamed(line, "zca").closed, len(all_closers("abc")), len(all_closers("ab"))],
            [True, False, ('', 'a', 'abc', 'b', 'c'), True, ('', 'a', 'ab', 'b'), ('abd', 'ad', 'bd', 'd'), ('', 'a', 'ac', 'acz', 'c', 'cz', 'z'), 61, 7])


class OfTwo(Case):

    def check_pair(self, one, other):
        before = (str(one), str(other))
        things = one.things
        self.assertIs(is_finer(one, other), set(other.closed) <= set(one.closed))
        lesser = all(set(one.around(lot)) <= set(other.around(lot)) for lot in every_lot(things))
        self.assertIs(is_finer(one, other), lesser)
        common = shared(one, other)
        self.assertIs(type(common), Closer)
        self.assertEqual((common.things, common.closed), (things, tuple(sorted(set(one.closed) & set(other.closed)))))
        both = mixed(one, other)
        self.assertIs(type(both), Closer)
        meets = {"".join(x for x in a if x in b) for a in one.closed for b in other.closed}
        self.assertEqual((both.things, both.closed), (things, tuple(sorted(meets))))
        self.assertEqual((str(one), str(other)), before)

    def test_all_closers_of_up_to_three_things(self):
        for things in ("a", "by"):
            for one, other in itertools.product(closers_of(things), repeat=2):
                self.check_pair(one, other)
        for one, other in itertools.product(closers_of("abc")[::3], closers_of("abc")):
            self.check_pair(one, other)

    def test_closers_of_seven_things(self):
        closers = [closer for closer in sample_closers() if closer.things == "abcdefg"]
        closers += [by_rules("abcdefg", ()), Closer("abcdefg", ("", "abcdefg"))]
        self.assertGreater(len(closers), 6)
        for one, other in itertools.product(closers, repeat=2):
            self.check_pair(one, other)

    def test_the_same_closer_twice(self):
        for closer in sample_closers():
            again = Closer(closer.things, closer.closed)
            self.assertEqual([is_finer(closer, again), shared(closer, again), mixed(closer, again)],
                             [True, closer, closer])

    def test_calls_and_wrong_inputs(self):
        kinds = [(NotACloser, wrong_closers())] * 2
        for action in OF_TWO:
            for args in ((LINE, FLAT), (Closer("a", ("a",)), Closer("a", ("", "a"))), (FOUR, FOUR)):
                self.check_call(action, ("one", "other"), args, kinds)

    def test_other_things_behind_all_other_errors(self):
        for action in OF_TWO:
            self.check_raises(OtherThings, "abcd", action, FLAT, FOUR)
            self.check_raises(OtherThings, "abc", action, FOUR, FLAT)
            self.check_raises(OtherThings, "b", action, Closer("a", ("a",)), Closer("b", ("b",)))
            self.check_raises(OtherThings, "abd", action, FLAT, Closer("abd", ("abd",)))
            self.check_raises(OtherThings, SEVEN, action, one=FLAT, other=Closer(SEVEN, (SEVEN,)))
            self.check_raises(NotACloser, "abcd", action, FLAT, "abcd")
            self.check_raises(NotACloser, str(FLAT), action, str(FLAT), FOUR)
            self.check_raises(NotACloser, None, action, None, FOUR)


class KeptAndShut(Case):

    def test_kept(self):
        for closer in sample_closers():
            before = str(closer)
            for lot in every_lot(closer.things)[1::3]:
                found = kept(closer, lot)
                self.assertIs(type(found), Closer)
                told = tuple(sorted({"".join(x for x in closed if x in lot) for closed in closer.closed}))
                self.assertEqual((found.things, found.closed), (lot, told))
                for part in every_lot(lot)[::3]:
                    self.assertEqual(found.around(part), "".join(x for x in closer.around(part) if x in lot))
            self.assertEqual(str(closer), before)

    def test_shut(self):
        for closer in sample_closers():
            before = str(closer)
            for lot in every_lot(closer.things)[::3]:
                if lot == closer.things:
                    continue
                found = shut(closer, lot)
                self.assertIs(type(found), Closer)
                self.assertEqual(found.things, as_lot(set(closer.things) - set(lot)))
                for part in every_lot(found.things):
                    around = as_lot(set(closer.around(as_lot(part + lot))) - set(lot))
                    self.assertEqual(found.around(part), around)
            self.assertEqual(str(closer), before)

    def test_edges(self):
        for closer in sample_closers():
            self.assertEqual(kept(closer, closer.things), closer)
            self.assertEqual(shut(closer, ""), closer)
        self.assertEqual(str(kept(FOUR, "d")), "d - d")
        self.assertEqual(str(shut(FOUR, "ab")), "cd cd")
        self.assertEqual(str(shut(FOUR, "abd")), "c c")
        self.assertEqual(str(shut(FLAT, "a")), "bc - bc")
        self.assertEqual(str(kept(by_rules("abc", (("", "a"),)), "a")), "a a")
        self.assertEqual(str(shut(by_rules("abc", ()), "b")), "ac - a ac c")

    def test_calls_and_wrong_inputs(self):
        for action in (kept, shut):
            for args in ((FOUR, "ab"), (FLAT, "c"), (Closer(SEVEN, (SEVEN,)), "acz")):
                kinds = [(NotACloser, wrong_closers()), (InvalidLot, wrong_lots(args[0].things))]
                self.check_call(action, ("closer", "lot"), args, kinds)

    def test_too_few_behind_all_other_errors(self):
        for closer in (FOUR, FLAT, Closer("a", ("a",)), Closer(SEVEN, (SEVEN,))):
            self.check_raises(TooFew, 0, kept, closer, "")
            self.check_raises(TooFew, 0, shut, closer, closer.things)
            self.check_raises(TooFew, 0, kept, closer=closer, lot="")
            self.check_raises(TooFew, 0, shut, closer=closer, lot=closer.things)
            self.check_raises(InvalidLot, None, kept, closer, None)
            self.check_raises(InvalidLot, (), shut, closer, ())
        self.check_raises(NotACloser, "", kept, "", "")
        self.check_raises(NotACloser, "abc", shut, "abc", "abc")


class Renamed(Case):

    def test_each_order_of_letters(self):
        for closer in closers_of("abc")[::4] + [FLAT, LINE, Closer("bxz", ("", "b", "bxz"))]:
            before = str(closer)
            for letters in ("abc", "acb", "bac", "bca", "cab", "cba", "zyx", "dza", "bxz", "zxb", "mca"):
                found = renamed(closer, letters)
                self.assertIs(type(found), Closer)
                new = dict(zip(closer.things, letters))
                self.assertEqual(found.things, as_lot(letters))
                for lot in every_lot(closer.things):
                    self.assertEqual(found.around(as_lot(new[x] for x in lot)), as_lot(new[x] for x in closer.around(lot)))
                back = "".join(thing for _, thing in sorted(zip(letters, closer.things)))
                self.assertEqual(renamed(found, back), closer)
            self.assertEqual(str(closer), before)

    def test_edges(self):
        self.assertEqual(str(renamed(Closer("a", ("", "a")), "z")), "z - z")
        self.assertEqual(str(renamed(Closer("z", ("z",)), "a")), "a a")
        self.assertEqual(str(renamed(Closer(SEVEN, ("a", SEVEN)), "gfedcba")), "abcdefg abcdefg g")
        for closer in sample_closers():
            self.assertEqual(renamed(closer, closer.things), closer)

    def test_calls_and_wrong_inputs(self):
        for args in ((LINE, "zca"), (Closer("a", ("a",)), "q"), (Closer(SEVEN, ("a", SEVEN)), "qwertyu")):
            kinds = [(NotACloser, wrong_closers()), (InvalidLetters, wrong_letters(len(args[1])))]
            self.check_call(renamed, ("closer", "letters"), args, kinds)

    def test_letters_must_be_as_many_and_unlike(self):
        for letters in ("", "ab", "abcd", "aab", "aba", "baa", "abC", "ab1", "ab ", "a-c", "aaa"):
            self.check_raises(InvalidLetters, letters, renamed, LINE, letters)


class AllClosers(Case):

    def test_all_and_in_order(self):
        for things in ("a", "z", "ab", "qx", "abc", "mno"):
            found = all_closers(things)
            self.assertIs(type(found), tuple)
            self.assertTrue(all(type(closer) is Closer and closer.things == things for closer in found))
            self.assertEqual([closer.closed for closer in found], sorted(all_systems_of(things)))
        self.assertEqual([len(all_closers(things)) for things in ("a", "ab", "abc")], [2, 7, 61])
        self.assertEqual([str(closer) for closer in all_closers("b")], ["b - b", "b b"])
        self.assertEqual([str(closer) for closer in all_closers("ab")],
                         ["ab - a ab", "ab - a ab b", "ab - ab", "ab - ab b", "ab a ab", "ab ab", "ab ab b"])

    def test_each_family_is_that_of_one_of_them(self):
        found = all_closers("abc")
        for closer in found:
            self.assertEqual(found.count(closer), 1)
            self.assertEqual(meets_by_subsets("abc", closer.closed), closer.closed)
            self.assertIn(by_family("abc", closer.closed), found)

    def test_calls_and_wrong_inputs(self):
        for things in ("a", "bz", "abc"):
            self.check_call(all_closers, ("things",), (things,), [(InvalidThings, wrong_things())])

    def test_more_than_three_things(self):
        for things in ("abcd", "vwxyz", "abcdef", SEVEN):
            self.check_raises(TooMany, len(things), all_closers, things)
            self.check_raises(TooMany, len(things), all_closers, things=things)
        self.check_raises(InvalidThings, "abdc", all_closers, "abdc")


class Module(unittest.TestCase):

    def test_all_is_defined_here(self):
        for name in ("is_finer", "shared", "mixed", "kept", "shut", "renamed", "all_closers"):
            self.assertEqual(getattr(module, name).__module__, "closerworks.comparing")


if __name__ == "__main__":
    unittest.main()
