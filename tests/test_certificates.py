"""[2], [28] Certificates: each one is a claim that is true, with a paper that the checker accepts."""

import itertools
import unittest

from closerworks import certificates as module
from closerworks.certificates import (certify_corners, certify_finer, certify_fit, certify_follows, certify_keys,
                                      certify_kind, certify_least, certify_most, certify_none, certify_of, certify_open,
                                      certify_parts, certify_rows, certify_stem)
from closerworks.checker import accepts
from closerworks.closers import Closer
from closerworks.errors import (InvalidBook, InvalidLot, InvalidParts, InvalidRule, InvalidText, InvalidThings, NoFit,
                                NotACloser, NotARiddle, OtherThings, Swapped, UnknownThing)
from closerworks.peels import fewest_rows, some_rows
from closerworks.riddles import Riddle
from closerworks.telling import by_family, by_rules
from closerworks.topologies import by_leads
from tests import told
from tests.helpers import (Case, closed_by_book, closers_of, convex_samples, every_lot, example_closers, odd_tuples,
                           odd_values, odd_words, other_samples, sample_closers, some_books, some_closers, swaps_told,
                           wrong_asked, wrong_books, wrong_closers, wrong_lots, wrong_parts, wrong_riddles, wrong_rules,
                           wrong_things)
from tests.test_parts import all_parts, some_parts
from tests.test_riddles import DIM, ODD, fitting, pairs_of, some_riddles
from tests.told import accepts_told

SEVEN = "acegikz"
FLAT, LINE, FOUR = example_closers()
FORK = by_leads("abc", ("ab", "ac"))
TWO = (("c", "d"), ("ab", "c"))
KINDS = ("modular", "distributive", "topology", "convex", "exchange")
PLANE = by_family("abcdefg", ("abc", "ade", "afg", "bdf", "beg", "cdg", "cef"))


def all_samples():
    return [PLANE] + sample_closers() + closers_of("abc") + some_closers("bdfh", 16, 97)


class Certified(Case):

    def check(self, pair):
        """The pair is one of a claim and a paper, which the checker accepts; the claim comes back."""
        self.assertIs(type(pair), tuple)
        claim, paper = pair
        self.assertIs(accepts(claim, paper), True, pair)
        self.assertIs(accepts(*pair), True)
        if len(str(claim)) < 150:
            self.assertIs(accepts_told(claim, paper), True, pair)
        return claim


class Examples(unittest.TestCase):

    def test_examples(self):
        line, flat, four, fork, two = LINE, FLAT, FOUR, FORK, TWO
        self.assertEqual(
            [certify_keys(four), certify_least(flat)[1], certify_kind(line, "convex"), certify_kind(fork, "topology")[0], certify_follows("abcd", two, ("ab", "d"))[0]],
            [(('keys', 'abcd - a abcd acd ad b bcd bd cd d', ('ab',)), ('acd', 'bcd')), ('ab', 'ac', 'bc'), (('convex', 'abc - a ab abc b bc c'), ()), ('topology', 'abc - abc b bc c'), ('follows', 'abcd', (('c', 'd'), ('ab', 'c')), 'ab', 'd')])
        self.assertEqual(
            [accepts(("no modular", str(line)), ("a", "c", "ab")), accepts(("no convex", str(flat)), ("a", "b", "c")), accepts(("no loss", str(four), ("abc", "cd")), ((0, 1, "c"),)), accepts(("most rows", str(line), 2), ("ab", "bc")), accepts(("least", str(line), 1), ("ab",)), certify_parts(four, ("ab", "cd"))[0][0]],
            [True, True, True, True, False, 'loss'])


class Books(Certified):

    def test_follows(self):
        seen = set()
        for things, seed in (("a", 1), ("bz", 2), ("abc", 3), (SEVEN, 4)):
            rules = [(one, other) for one in every_lot(things)[::7 if len(things) > 3 else 1] for other in (things, things[0], "", things[1:])]
            for book in some_books(things, 5, seed):
                closed = closed_by_book(things, book)
                for rule in rules:
                    so = all(told.keeps(lot, rule) for lot in closed)
                    claim = self.check(certify_follows(things, book, rule))
                    self.assertEqual(claim, ("follows" if so else "bars", things, book, rule[0], rule[1]))
                    seen.add(claim[0])
        self.assertEqual(seen, {"follows", "bars"})

    def test_two_hundred_rules(self):
        chain = tuple((x, y) for x, y in zip("abcdef", "bcdefg"))
        self.assertEqual(self.check(certify_follows("abcdefg", (("g", "a"),) * 194 + chain[::-1], ("a", "g")))[0], "follows")
        self.check_raises(InvalidBook, 200, certify_follows, "abcdefg", (("g", "a"),) * 201, ("a", "g"))

    def test_of(self):
        for closer in all_samples():
            before = str(closer)
            stem = certify_stem(closer)[0][2]
            for book in (stem, stem + stem[:1], stem + (("", ""),), tuple((lot, closer.around(lot)) for lot in every_lot(closer.things))):
                claim = self.check(certify_of(closer, book))
                self.assertEqual(claim, ("of", before, book))
            for book in (stem[1:], stem + (("", closer.things),), (), (("", closer.things[0]),)):
                of = closed_by_book(closer.things, book) == closer.closed
                found = certify_of(closer, book)
                if of:
                    self.assertEqual(self.check(found), ("of", before, book))
                else:
                    self.assertIsNone(found)
            self.assertEqual(str(closer), before)

    def test_stem_and_least(self):
        for closer in all_samples():
            before = str(closer)
            stops = told.stops((closer.things, closer.closed))
            stem = tuple((stop, closer.around(stop)) for stop in stops)
            self.assertEqual(certify_stem(closer), (("stem", before, stem), ()))
            self.assertEqual(certify_least(closer), (("least", before, len(stops)), stops))
            self.check(certify_stem(closer))
            self.check(certify_least(closer))
            self.assertEqual(str(closer), before)

    def test_calls_and_wrong_inputs(self):
        for things, book, rule in (("abcd", TWO, ("ab", "d")), ("a", (), ("", "a")), (SEVEN, (("a", "c"),), ("c", "a"))):
            kinds = [(InvalidThings, wrong_things()), (InvalidBook, wrong_books(things)), (InvalidRule, wrong_rules(things))]
            self.check_call(certify_follows, ("things", "book", "rule"), (things, book, rule), kinds)
        for closer, book in ((FOUR, TWO), (FOUR, ()), (Closer("a", ("a",)), (("", "a"),))):
            kinds = [(NotACloser, wrong_closers()), (InvalidBook, wrong_books(closer.things))]
            self.check_call(certify_of, ("closer", "book"), (closer, book), kinds)
        self.assertIsNone(certify_of(FOUR, ()))


class Lots(Certified):

    def test_keys_and_corners(self):
        for closer in all_samples():
            before = str(closer)
            pair = (closer.things, closer.closed)
            self.assertEqual(certify_keys(closer), (("keys", before, told.keys(pair)), told.tops(pair)))
            self.assertEqual(self.check(certify_corners(closer)), ("corners", before, told.corners(pair)))
            self.check(certify_keys(closer))
            self.assertEqual(str(closer), before)

    def test_edges(self):
        whole = Closer(SEVEN, (SEVEN,))
        text = SEVEN + " " + SEVEN
        self.assertEqual([certify_keys(whole), certify_corners(whole)], [(("keys", text, ("",)), ()), (("corners", text, ()), ())])
        self.assertEqual(certify_least(whole), (("least", text, 1), ("",)))
        everything = Closer(SEVEN, tuple(every_lot(SEVEN)))
        self.assertEqual([certify_least(everything)[0][2], len(certify_corners(everything)[1])], [0, 120])

    def test_calls_and_wrong_inputs(self):
        for action in (certify_stem, certify_least, certify_keys, certify_corners):
            for closer in (FLAT, FOUR, Closer("a", ("a",)), Closer(SEVEN, ("", SEVEN))):
                self.check_call(action, ("closer",), (closer,), [(NotACloser, wrong_closers())])


class Parts(Certified):

    def test_loss_and_no_loss(self):
        seen = []
        for closer in all_samples():
            before = str(closer)
            ways = all_parts(closer.things) if len(closer.things) < 4 else some_parts(closer.things, 6, len(closer))
            for parts in ways:
                claim = self.check(certify_parts(closer, parts))
                self.assertIn(claim[0], ("loss", "no loss"))
                self.assertEqual(claim[1:], (before, parts))
                seen.append(claim[0])
            self.assertEqual(str(closer), before)
        self.assertGreater(min(seen.count("loss"), seen.count("no loss")), 50)

    def test_of_two_parts(self):
        # The lot around what both have in common must have one of both within it.
        for closer in closers_of("abc") + [FOUR]:
            for parts in itertools.combinations(every_lot(closer.things), 2):
                if set("".join(parts)) != set(closer.things) or any(set(one) <= set(other) for one, other in (parts, parts[::-1])):
                    continue
                around = set(closer.around("".join(x for x in parts[0] if x in parts[1])))
                lost = not any(set(part) <= around for part in parts)
                self.assertEqual(certify_parts(closer, parts)[0][0], "loss" if lost else "no loss")

    def test_thirty_five_parts(self):
        parts = tuple("".join(three) for three in itertools.combinations("abcdefg", 3))
        for closer in (Closer("abcdefg", tuple(every_lot("abcdefg"))), PLANE, Closer("abcdefg", ("abcdefg",))):
            self.check(certify_parts(closer, parts))

    def test_calls_and_wrong_inputs(self):
        for closer, parts in ((FOUR, ("ab", "cd")), (Closer("a", ("a",)), ("a",)), (Closer(SEVEN, ("", SEVEN)), tuple(SEVEN))):
            kinds = [(NotACloser, wrong_closers()), (InvalidParts, wrong_parts(closer.things))]
            self.check_call(certify_parts, ("closer", "parts"), (closer, parts), kinds)


class Kinds(Certified):

    def test_each_word(self):
        seen = set()
        for closer in all_samples():
            before = str(closer)
            for word in KINDS:
                claim, paper = certify_kind(closer, word)
                self.check((claim, paper))
                if len(closer) < 20:
                    so = told.is_kind((closer.things, closer.closed), word)
                    self.assertEqual(claim, (word if so else "no " + word, before))
                self.assertIn(claim, ((word, before), ("no " + word, before)))
                if claim[0] == word and word != "exchange":
                    self.assertEqual((type(paper), paper), (tuple, ()))
                seen.add(claim[0])
            self.assertEqual(str(closer), before)
        self.assertEqual(seen, set(KINDS) | {"no " + word for word in KINDS})

    def test_other_words(self):
        values = odd_values() + odd_words() + odd_tuples() + ["", (), "no modular", "Modular", "modular ", "half-modular", "rows"]
        values += [("modular",), ["modular"], b"modular", "keys", "exchang", " convex", "no loss"]
        for closer in (FLAT, Closer("a", ("a",)), Closer(SEVEN, ("", SEVEN))):
            for word in KINDS:
                kinds = [(NotACloser, wrong_closers()), (InvalidText, [(value, value) for value in values])]
                self.check_call(certify_kind, ("closer", "word"), (closer, word), kinds)


class Rows(Certified):

    def test_convex_closers(self):
        for closer in convex_samples() + [LINE, FOUR, FORK]:
            before = str(closer)
            self.assertEqual(self.check(certify_rows(closer)), ("rows", before, some_rows(closer)))
            self.assertEqual(self.check(certify_most(closer)), ("most rows", before, fewest_rows(closer)))
            self.assertEqual(len(certify_rows(closer)[0][2]), certify_most(closer)[0][2])
            self.assertEqual(str(closer), before)

    def test_closers_that_are_not_convex(self):
        for closer in other_samples():
            right = swaps_told(closer) if closer.is_closed("") else [()]
            for action in (certify_rows, certify_most):
                with self.assertRaises(Swapped) as caught:
                    action(closer)
                self.assertIn(caught.exception.given, right)

    def test_calls_and_wrong_inputs(self):
        for action in (certify_rows, certify_most):
            for closer in (LINE, FORK, Closer("a", ("", "a"))):
                self.check_call(action, ("closer",), (closer,), [(NotACloser, wrong_closers())])


class Riddles(Certified):

    def test_fit(self):
        seen = set()
        for things in ("a", "bz", "abc"):
            for riddle in some_riddles(things, 25, 3, most=4):
                for closer in closers_of(things)[::3]:
                    found = certify_fit(riddle, closer)
                    if told.fits((things, closer.closed), riddle.answers):
                        self.assertEqual(self.check(found), ("fits", str(closer), riddle.answers))
                    else:
                        self.assertIsNone(found)
                    seen.add(found is None)
        self.assertEqual(seen, {True, False})

    def test_open(self):
        seen = set()
        for things, many in (("a", 9), ("bz", 20), ("abc", 25), ("abcd", 8)):
            for riddle in some_riddles(things, many, 4, most=5, truth=0.6):
                right = fitting(riddle)
                for lot, thing in pairs_of(things):
                    if not right:
                        with self.assertRaises(NoFit):
                            certify_open(riddle, lot, thing)
                        continue
                    ways = {thing in told.around((things, closed), lot) for closed in right}
                    found = certify_open(riddle, lot, thing)
                    if len(ways) == 2:
                        self.assertEqual(self.check(found), ("open", things, riddle.answers, lot, thing))
                    else:
                        self.assertIsNone(found)
                    seen.add(len(ways))
        self.assertEqual(seen, {1, 2})

    def test_twelve_answers(self):
        riddle = Riddle("abc", (("a", "b", True),) * 6 + (("", "c", False),) * 6)
        self.check(certify_open(riddle, "a", "c"))
        self.assertIsNone(certify_open(riddle, "a", "b"))
        self.assertIsNone(certify_none(riddle))
        self.check(certify_none(Riddle("abc", riddle.answers[:11] + (("a", "b", False),))))
        self.check(certify_fit(riddle, by_rules("abc", (("a", "b"),))))

    def test_none(self):
        seen = set()
        for things, many in (("a", 20), ("abc", 60), (SEVEN, 60)):
            for riddle in some_riddles(things, many, 8, truth=0.7):
                book = tuple(answer[:2] for answer in riddle.answers if answer[2])
                closed = closed_by_book(things, book)
                found = certify_none(riddle)
                if told.fits((things, closed), riddle.answers):
                    self.assertIsNone(found)
                else:
                    self.assertEqual(self.check(found), ("none", things, riddle.answers))
                seen.add(found is None)
        self.assertEqual(seen, {True, False})
        riddle = Riddle(SEVEN, (("z", "a", False), ("e", "g", True), ("c", "e", True), ("a", "c", True), ("ai", "g", False)))
        self.assertEqual(certify_none(riddle)[1][0], 4)
        self.check(certify_none(riddle))

    def test_the_place_of_errors(self):
        self.check_raises(OtherThings, "abcd", certify_fit, DIM, FOUR)
        self.check_raises(NotACloser, None, certify_fit, DIM, None)
        self.check_raises(NotARiddle, None, certify_fit, None, None)
        for lot, thing in pairs_of("abc"):
            with self.assertRaises(NoFit) as caught:
                certify_open(ODD, lot, thing)
            self.assertEqual(vars(caught.exception), {})
        self.check_raises(InvalidLot, "x", certify_open, ODD, "x", "a")
        self.check_raises(UnknownThing, "a", certify_open, ODD, "a", "a")
        self.check_raises(UnknownThing, "x", certify_open, ODD, "a", "x")

    def test_calls_and_wrong_inputs(self):
        for riddle, closer in ((DIM, LINE), (Riddle("a", ()), Closer("a", ("a",))), (Riddle(SEVEN, ()), Closer(SEVEN, (SEVEN,)))):
            kinds = [(NotARiddle, wrong_riddles()), (NotACloser, wrong_closers())]
            self.check_call(certify_fit, ("riddle", "closer"), (riddle, closer), kinds)
        for riddle in (ODD, Riddle("a", (("", "a", True), ("", "a", False)))):
            self.check_call(certify_none, ("riddle",), (riddle,), [(NotARiddle, wrong_riddles())])
        for args in ((Riddle("abc", ()), "a", "c"), (Riddle("a", ()), "", "a"), (Riddle(SEVEN, ()), "ck", "z")):
            things = args[0].things
            kinds = [(NotARiddle, wrong_riddles()), (InvalidLot, wrong_lots(things)), (UnknownThing, wrong_asked(things, args[1]))]
            self.check_call(certify_open, ("riddle", "lot", "thing"), args, kinds)


class Finer(Certified):

    def test_finer_and_not_finer(self):
        samples = closers_of("a") + closers_of("bz") + closers_of("abc")[::5] + [LINE, FLAT] + some_closers(SEVEN, 4, 3)
        for one, other in itertools.product(samples, repeat=2):
            before = (str(one), str(other))
            if one.things != other.things:
                self.check_raises(OtherThings, other.things, certify_finer, one, other)
                continue
            finer = set(other.closed) <= set(one.closed)
            self.assertEqual(self.check(certify_finer(one, other)), ("finer" if finer else "not finer",) + before)
            self.assertEqual((str(one), str(other)), before)

    def test_calls_and_wrong_inputs(self):
        for one, other in ((LINE, FLAT), (FLAT, LINE), (Closer("a", ("a",)), Closer("a", ("", "a")))):
            kinds = [(NotACloser, wrong_closers()), (NotACloser, wrong_closers())]
            self.check_call(certify_finer, ("one", "other"), (one, other), kinds)


class Module(unittest.TestCase):

    def test_all_is_defined_here(self):
        for name in ("follows", "of", "stem", "least", "keys", "corners", "parts", "kind", "rows", "most", "fit", "open", "none",
                     "finer"):
            self.assertEqual(getattr(module, "certify_" + name).__module__, "closerworks.certificates")


if __name__ == "__main__":
    unittest.main()
