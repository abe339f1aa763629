"""[2], [28] The checker: which claims and papers it accepts."""

import functools
import itertools
import random
import unittest

from closerworks import certificates, checker as module
from closerworks.checker import accepts
from closerworks.closers import Closer
from closerworks.riddles import some_fit
from closerworks.telling import by_family, by_rules
from closerworks.topologies import by_leads
from tests import told
from tests.helpers import (Case, closers_of, convex_samples, every_family, every_lot, example_closers, odd_tuples,
                           odd_values, odd_words, sample_closers, some_books, some_closers)
from tests.test_parts import all_parts, some_parts
from tests.test_riddles import pairs_of, some_riddles
from tests.told import accepts_told

SEVEN = "acegikz"
FLAT, LINE, FOUR = example_closers()
FORK = by_leads("abc", ("ab", "ac"))
KINDS = ("modular", "distributive", "topology", "convex", "exchange")
WORDS = told.VALUES + KINDS + tuple("no " + word for word in KINDS) + ("follows", "bars", "open", "none")


@functools.cache
def few_closers():
    """Closers with which all can be looked at."""
    return ([closer for things in ("a", "bz") for closer in closers_of(things)] + [FLAT, LINE, FOUR, FORK]
            + closers_of("abc")[::6] + some_closers("bdfh", 8, 91) + convex_samples()[20:34:2])


@functools.cache
def certified():
    """Pairs of claims and papers of all kinds, made by the package."""
    found = []
    for closer in few_closers():
        found += [certificates.certify_stem(closer), certificates.certify_least(closer), certificates.certify_keys(closer)]
        found += [certificates.certify_corners(closer)] + [certificates.certify_kind(closer, word) for word in KINDS]
        found += [certificates.certify_of(closer, certificates.certify_stem(closer)[0][2] + (("", ""),))]
        ways = list(all_parts(closer.things)) if len(closer.things) < 4 else list(some_parts(closer.things, 4, 7))
        found += [certificates.certify_parts(closer, parts) for parts in ways[:6]]
        if told.is_kind((closer.things, closer.closed), "convex"):
            found += [certificates.certify_rows(closer), certificates.certify_most(closer)]
        found += [certificates.certify_finer(closer, other) for other in few_closers()[::5] if other.things == closer.things]
    for things, seed in (("abc", 1), ("bdfh", 2)):
        for book in some_books(things, 8, seed):
            for rule in (("", things[0]), (things[0], things), (things[1:3], things[0]), ("", "")):
                found.append(certificates.certify_follows(things, book, rule))
    for things in ("a", "abc", "bdfh"):
        for riddle in some_riddles(things, 14, 5, most=6, truth=0.6):
            if some_fit(riddle):
                found += [certificates.certify_open(riddle, lot, thing) for lot, thing in pairs_of(things)[:3]]
                book = tuple(answer[:2] for answer in riddle.answers if answer[2])
                found.append(certificates.certify_fit(riddle, by_rules(things, book)))
            else:
                found.append(certificates.certify_none(riddle))
    return [pair for pair in found if pair is not None]


def near(value, extras):
    """Values that are changed at one place, of all kinds."""
    if isinstance(value, tuple):
        yield list(value)
        yield (value,)
        for at in range(len(value)):
            yield value[:at] + value[at + 1:]
            yield value[:at] + value[at:at + 1] + value[at:]
            yield value[:at] + value[at + 1:at + 2] + value[at:at + 1] + value[at + 2:]
            for other in near(value[at], extras):
                yield value[:at] + (other,) + value[at + 1:]
        for extra in extras:
            yield value + (extra,)
            yield (extra,) + value
    elif isinstance(value, bool):
        yield from (not value, int(value), None, str(value))
    elif isinstance(value, int):
        yield from (value + 1, value - 1, -value - 1, 0, 1, 2, bool(value), str(value), None, (value,), 10 ** 99, 1001)
    elif isinstance(value, str):
        yield from (value[::-1], value + " ", " " + value, value + "\n", value.upper(), tuple(value), value.encode(), None)
        for at in range(len(value)):
            yield value[:at] + value[at + 1:]
        yield from ("", "a", "b", "ab", "abc", "bc", "-", value + "z", "a" + value, value + value[-1:], "abc - abc", "a - a")
    for extra in extras:
        yield extra


class Examples(unittest.TestCase):

    def test_examples(self):
        line, flat, four = LINE, FLAT, FOUR
        self.assertEqual(
            [accepts(("no modular", str(line)), ("a", "c", "ab")), accepts(("no convex", str(flat)), ("a", "b", "c")), accepts(("no loss", str(four), ("abc", "cd")), ((0, 1, "c"),)), accepts(("most rows", str(line), 2), ("ab", "bc")), accepts(("least", str(line), 1), ("ab",)), certificates.certify_parts(four, ("ab", "cd"))[0][0]],
            [True, True, True, True, False, 'loss'])


class Papers(Case):

    def check(self, claim, paper):
        shown = repr((claim, paper))
        found = accepts(claim, paper)
        self.assertIs(found, accepts_told(claim, paper), shown)
        self.assertEqual(repr((claim, paper)), shown)
        return found

    def test_all_kinds_of_claims_are_certified(self):
        words = [claim[0] for claim, _ in certified()]
        self.assertEqual(set(words), set(WORDS))
        for claim, paper in certified():
            self.assertIs(self.check(claim, paper), True)
            self.assertIs(accepts(claim=claim, paper=paper), True)
            self.assertIs(accepts(paper=paper, claim=claim), True)

    def test_what_is_changed_at_one_place(self):
        chance = random.Random(17)
        extras = (None, True, False, 0, 1, 2, "", "a", "b", "c", "ab", (), (0,), ("a",), ("", "a"), ((0, 1, ""),), str(FLAT),
                  str(LINE), ("abc",), (("", "a"),), ("a", "b"), [], {})
        accepted = {}
        for claim, paper in certified():
            papers = list(near(paper, extras))
            claims = list(near(claim, extras))
            for other in chance.sample(papers, min(len(papers), 45)):
                accepted.setdefault((claim[0], "paper"), []).append(self.check(claim, other))
            for other in chance.sample(claims, min(len(claims), 45)):
                accepted.setdefault((claim[0], "claim"), []).append(self.check(other, paper))
        for (word, what), found in accepted.items():
            self.assertIn(False, found, (word, what))
        # Some other papers are right as well.
        for word in ("follows", "bars", "least", "no loss", "no convex", "no exchange", "no modular", "open", "of"):
            self.assertIn(True, accepted[word, "paper"], word)

    def test_papers_of_other_claims(self):
        pairs = certified()
        chance = random.Random(18)
        for claim, _ in pairs:
            for _, paper in chance.sample(pairs, 25):
                self.check(claim, paper)

    def test_one_element_more_and_one_less(self):
        for claim, paper in certified():
            if isinstance(paper, tuple) and claim[0] not in ("follows", "no loss", "least", "most rows"):
                for at in range(len(paper)):
                    self.assertIs(accepts(claim, paper[:at] + paper[at + 1:]), False, (claim, paper))
                    self.assertIs(accepts(claim, paper[:at + 1] + paper[at:]), False, (claim, paper))
                for more in (None, 0, "", "a", (), True):
                    self.assertIs(accepts(claim, paper + (more,)), False, (claim, paper))
            for at in range(len(claim)):
                self.assertIs(accepts(claim[:at] + claim[at + 1:], paper), False)
                self.assertIs(accepts(claim[:at + 1] + claim[at:], paper), False)
            for more in (None, 0, "", "a", (), True):
                self.assertIs(accepts(claim + (more,), paper), False)

    def test_another_closer(self):
        others = [str(closer) for closer in few_closers()]
        for claim, paper in certified():
            if claim[0] in ("follows", "bars", "open", "none"):
                continue
            for text in others[::3]:
                self.check(claim[:1] + (text,) + claim[2:], paper)
            for value in (None, "", "abc", claim[1] + " ", claim[1].split(" "), read_closer(claim[1]), (claim[1],), 5):
                self.assertIs(accepts(claim[:1] + (value,) + claim[2:], paper), False)

    def test_other_words(self):
        for claim, paper in certified():
            for word in WORDS:
                self.check((word,) + claim[1:], paper)
            for word in ("", " ", claim[0] + " ", claim[0].upper(), (claim[0],), None, "half-modular", "no " + claim[0],
                         claim[0].encode(), [claim[0]], "no  modular", "nomodular"):
                if word not in WORDS:
                    self.assertIs(accepts((word,) + claim[1:], paper), False)

    def test_lists_in_the_place_of_tuples(self):
        for claim, paper in certified():
            self.assertIs(accepts(list(claim), paper), False)
            if isinstance(paper, tuple):
                self.assertIs(accepts(claim, list(paper)), False)
                for at, value in enumerate(paper):
                    if isinstance(value, tuple):
                        self.assertIs(accepts(claim, paper[:at] + (list(value),) + paper[at + 1:]), False)
            for at, value in enumerate(claim):
                if isinstance(value, tuple):
                    self.assertIs(accepts(claim[:at] + (list(value),) + claim[at + 1:], paper), False)

    def test_true_and_false_in_the_place_of_integers(self):
        seen = 0
        for claim, paper in certified():
            for other in turned(paper):
                self.assertIs(accepts(claim, other), False, (claim, other))
                seen += 1
            for other in turned(claim):
                self.assertIs(accepts(other, paper), False, (other, paper))
                seen += 1
        self.assertGreater(seen, 100)


def read_closer(text):
    """The closer with a text itself."""
    return Closer.read(text)


def turned(value):
    """Values with True or False in the place of one integer 1 or 0, or the other way round."""
    if isinstance(value, tuple):
        for at in range(len(value)):
            for other in turned(value[at]):
                yield value[:at] + (other,) + value[at + 1:]
    elif isinstance(value, bool):
        yield int(value)
    elif isinstance(value, int) and value in (0, 1):
        yield bool(value)


class AnyValues(Case):

    def test_values_of_any_kind(self):
        values = odd_values() + odd_tuples() + odd_words() + ["", (), ("",), ((),), str(LINE), ("stem",), ("keys", str(LINE))]
        pairs = certified()[::7]
        for value in values:
            shown = repr(value)
            for other in ((), None, "a", 0, True, value):
                self.assertIs(accepts(value, other), False)
            for claim, paper in pairs:
                self.assertIs(accepts(value, paper), False)
                if value != paper or type(value) is not type(paper):
                    self.assertIs(accepts(claim, value), accepts_told(claim, value), (claim, value))
                for at in range(len(claim)):
                    other = claim[:at] + (value,) + claim[at + 1:]
                    self.assertIs(accepts(other, paper), accepts_told(other, paper), (other, paper))
            self.assertEqual(repr(value), shown)

    def test_each_word_with_values_of_any_kind(self):
        values = odd_values() + odd_tuples() + odd_words()[::6] + ["", ()]
        for word in WORDS:
            self.assertIs(accepts((word,), ()), False)
            for things in ("a", "abc", "abcdefg"):
                for claim in ((word, things), (word, things, ()), (word, things, (), ""), (word, things, (), "", "", "")):
                    for paper in ((), "", (0, ())):
                        self.assertIs(accepts(claim, paper), False)
            for value in values:
                for claim in ((word, value), (word, str(LINE), value), (word, value, value), (word, "abc", value, "a", "b"),
                              (word, "abc", (), value, "b"), (word, "abc", (), "", value), (word, "abc", (("a", "b"),), "a", "b")):
                    for paper in (value, (), (value,), (value, value), (0, value), ("", value, value)):
                        self.assertIs(accepts(claim, paper), accepts_told(claim, paper), (claim, paper))

    def test_texts_of_no_closer(self):
        for text in ("", "abc", "abc ", "abc a", "ab a b", "ab - a b ab", "ab - ab ab", "ba - ba", "ab  ab", "ab - ab\n", "a - a "):
            for claim, paper in ((("convex", text), ()), (("topology", text), ()), (("modular", text), ()), (("stem", text, ()), ()),
                                 (("fits", text, ()), ()), (("finer", text, text), ()), (("finer", "ab - ab", text), ()),
                                 (("no topology", text), ()), (("least", text, 0), ()), (("keys", text, ("",)), ())):
                self.assertIs(accepts(claim, paper), False)


class Truth(Case):
    """What is accepted is true, and what is true has a paper that is accepted: all claims of small closers."""

    def all_closers(self):
        return closers_of("a") + closers_of("bz") + closers_of("abc")[::3] + [FLAT, LINE]

    def pair(self, closer):
        return closer.things, closer.closed

    def test_kinds(self):
        for closer in self.all_closers():
            pair, text = self.pair(closer), str(closer)
            strings = [list(every_lot(closer.things))] * 3
            papers = [()] + list(itertools.product(closer.closed, repeat=2)) + list(itertools.product(*strings))
            papers += [family for family in every_family(closer.things)] if len(closer.things) < 3 else [told.bases(pair)]
            for word in KINDS:
                found = [paper for paper in papers if accepts((word, text), paper)]
                against = [paper for paper in papers if accepts(("no " + word, text), paper)]
                self.assertIs(bool(found), told.is_kind(pair, word), (word, text))
                self.assertIs(bool(against), not told.is_kind(pair, word), (word, text))
                self.assertLessEqual(len(set(found)), 1)

    def test_families(self):
        for closer in closers_of("a") + closers_of("bz"):
            pair, text = self.pair(closer), str(closer)
            families = list(every_family(closer.things))
            for family in families:
                accepted = [paper for paper in families if accepts(("keys", text, family), paper)]
                self.assertEqual(accepted, [told.tops(pair)] if family == told.keys(pair) else [])
                many = [at for at in range(len(closer.closed))]
                pairs = list(itertools.product(many, repeat=2))
                papers = [some for size in range(3) for some in itertools.product(pairs, repeat=size)]
                self.assertIs(any(accepts(("corners", text, family), paper) for paper in papers), family == told.corners(pair))

    def test_numbers_of_rules_and_rows(self):
        for closer in self.all_closers():
            pair, text = self.pair(closer), str(closer)
            lots = every_lot(closer.things)
            for number in range(5):
                families = list(itertools.combinations(lots, number))
                self.assertIs(any(accepts(("least", text, number), some) for some in families), number <= len(told.stops(pair)))
                apart = told.is_kind(pair, "convex") and any(
                    not any(set(one) <= set(other) for one, other in itertools.permutations(some, 2))
                    for some in itertools.combinations(told.corners(pair), number))
                self.assertIs(any(accepts(("most rows", text, number), some) for some in families), apart)

    def test_parts(self):
        for closer in closers_of("a") + closers_of("bz") + closers_of("abc")[::4]:
            for parts in all_parts(closer.things):
                claim, paper = certificates.certify_parts(closer, parts)
                other = ("loss" if claim[0] == "no loss" else "no loss",) + claim[1:]
                self.assertIs(accepts(claim, paper), True)
                lines = range(len(parts))
                steps = list(itertools.product(lines, lines, every_lot(closer.things)))
                papers = [()] + [(step,) for step in steps] + [paper]
                lots = list(itertools.product(range(2), repeat=len(closer.things)))
                papers += [(some, line) for size in range(3) for some in itertools.combinations(lots, size) for line in lots]
                self.assertFalse(any(accepts(other, paper) for paper in papers))

    def test_books(self):
        lots = every_lot("ab")
        rules = list(itertools.product(lots, repeat=2))
        for size in range(3):
            for book in itertools.combinations(rules[1::3], size):
                closed = tuple(lot for lot in lots if all(told.keeps(lot, rule) for rule in book))
                for rule in rules:
                    so = all(told.keeps(lot, rule) for lot in closed)
                    papers = [some for many in range(3) for some in itertools.product(range(len(book)), repeat=many)]
                    claim = ("ab", book) + rule
                    self.assertIs(any(accepts(("follows",) + claim, paper) for paper in papers), so)
                    self.assertIs(any(accepts(("bars",) + claim, paper) for paper in lots), not so)
                for closer in closers_of("ab"):
                    missing = sum(lot not in closer.closed for lot in lots)
                    papers = list(itertools.product(range(len(book)), repeat=missing))
                    of = any(accepts(("of", str(closer), book), paper) for paper in papers)
                    self.assertIs(of, closer.closed == closed)
                    right = tuple((stop, closer.around(stop)) for stop in told.stops(self.pair(closer)))
                    self.assertIs(accepts(("stem", str(closer), book), ()), book == right)

    def test_riddles(self):
        texts = [str(closer) for closer in closers_of("ab")]
        for riddle in some_riddles("ab", 60, 6, most=3):
            right = [closer for closer in closers_of("ab") if told.fits(self.pair(closer), riddle.answers)]
            for closer in closers_of("ab"):
                self.assertIs(accepts(("fits", str(closer), riddle.answers), ()), closer in right)
            for lot, thing in pairs_of("ab"):
                ways = {thing in closer.around(lot) for closer in right}
                accepted = any(accepts(("open", "ab", riddle.answers, lot, thing), pair) for pair in itertools.product(texts, repeat=2))
                self.assertIs(accepted, len(ways) == 2)
            many = range(len(riddle.answers))
            papers = [(at, some) for at in many for size in range(3) for some in itertools.product(many, repeat=size)]
            self.assertIs(any(accepts(("none", "ab", riddle.answers), paper) for paper in papers), not right)

    def test_finer(self):
        for one, other in itertools.product(closers_of("ab") + [FLAT, LINE], closers_of("ab") + [FLAT, LINE, FOUR]):
            finer = one.things == other.things and set(other.closed) <= set(one.closed)
            self.assertIs(accepts(("finer", str(one), str(other)), ()), finer)
            accepted = any(accepts(("not finer", str(one), str(other)), lot) for lot in every_lot(other.things))
            self.assertIs(accepted, one.things == other.things and not finer)


class Edges(Case):

    def test_papers_beside_those_of_the_package(self):
        book = (("a", "b"), ("b", "c"), ("", ""))
        self.assertTrue(accepts(("follows", "abc", book, "a", "c"), (0, 1)))
        self.assertTrue(accepts(("follows", "abc", book, "a", "c"), (2, 0, 0, 2, 1, 1)))
        self.assertFalse(accepts(("follows", "abc", book, "a", "c"), (1, 0)))
        self.assertFalse(accepts(("follows", "abc", book, "a", "c"), (0,)))
        self.assertFalse(accepts(("follows", "abc", book, "a", "c"), (0, 1, 3)))
        self.assertTrue(accepts(("follows", "abc", (), "a", ""), ()))
        self.assertTrue(accepts(("bars", "abc", book, "b", "a"), "bc"))
        self.assertFalse(accepts(("bars", "abc", book, "b", "a"), "b"))
        self.assertTrue(accepts(("least", str(FLAT), 2), ("ab", "bc")))
        self.assertTrue(accepts(("least", str(FLAT), 0), ()))
        self.assertFalse(accepts(("least", str(FLAT), 2), ("bc", "ab")))
        self.assertTrue(accepts(("most rows", str(LINE), 1), ("bc",)))
        self.assertTrue(accepts(("most rows", str(LINE), 0), ()))
        self.assertFalse(accepts(("most rows", str(FLAT), 0), ()))
        self.assertFalse(accepts(("most rows", str(LINE), 2), ("a", "ab")))
        self.assertTrue(accepts(("no topology", str(LINE)), ("c", "a")))
        self.assertFalse(accepts(("no topology", "ab a ab"), ("a", "ab")))
        self.assertFalse(accepts(("no convex", "ab a ab"), ("", "a", "b")))
        self.assertTrue(accepts(("no convex", "ab a ab"), ()))

    def test_steps_that_do_nothing_are_none(self):
        claim = ("no loss", str(FOUR), ("abc", "cd"))
        self.assertTrue(accepts(claim, ((1, 0, "c"),)))
        for paper in ((), ((0, 0, "c"),), ((0, 1, "c"), (0, 1, "cd")), ((0, 1, "c"), (0, 1, "c")), ((0, 1, "cd"),), ((0, 1, ""),),
                      ((0, 2, "c"),), ((-1, 0, "c"),), ((0, 1, "c", 0),), ((0, 1),), (0, 1, "c"), ((False, True, "c"),)):
            self.assertFalse(accepts(claim, paper), paper)
        self.assertTrue(accepts(("no loss", str(FOUR), ("abcd",)), ()))

    def test_sheets_that_lose(self):
        claim = ("loss", str(FOUR), ("ab", "cd"))
        sheet = ((0, 0, 0, 0), (1, 1, 1, 1))
        self.assertTrue(accepts(claim, (sheet, (0, 0, 1, 1))))
        self.assertTrue(accepts(claim, (((0, 0, 0, 0), (1000, 7, 5, 3)), (1000, 7, 0, 0))))
        for paper in ((sheet, (0, 0, 0, 1)), (sheet, (0, 0, 0, 0)), (sheet[::-1], (0, 0, 1, 1)), (sheet, (0, 0, 1)), (sheet, (0, 0, 1, True)),
                      (sheet + ((1, 1, 1, 1),), (0, 0, 1, 1)), (((0, 0, 0, 0), (0, 0, 1, 1)), (0, 0, 1, 1)), ((), (0, 0, 0, 0)), sheet,
                      (((0, 0, 0, 0), (1001, 1, 1, 1)), (0, 0, 1, 1)), (((0, 0, 0, 0), (1, 1, 0, 1)), (0, 0, 0, 1))):
            self.assertFalse(accepts(claim, paper), paper)

    def test_seven_things(self):
        closers = [Closer(SEVEN, (SEVEN,)), Closer(SEVEN, tuple(every_lot(SEVEN))), Closer(SEVEN, ("", SEVEN))]
        closers += [by_family("abcdefg", ("abc", "ade", "afg", "bdf", "beg", "cdg", "cef"))] + sample_closers()[-6:]
        for closer in closers:
            for word in KINDS:
                claim, paper = certificates.certify_kind(closer, word)
                self.assertIs(accepts(claim, paper), True)
                other = (claim[0][3:] if claim[0].startswith("no ") else "no " + claim[0],) + claim[1:]
                for wrong in (paper, (), ("", "a", "b"), ("", closer.things), (closer.things,)):
                    self.assertIs(accepts(other, wrong), False)
            for pair in (certificates.certify_keys(closer), certificates.certify_corners(closer), certificates.certify_stem(closer)):
                self.assertIs(accepts(*pair), True)
                family = pair[0][2]
                for wrong in (family[1:], family + family[:1], family[::-1] + ("",), list(family), None):
                    if wrong != family:
                        self.assertIs(accepts(pair[0][:2] + (wrong,), pair[1]), False)

    def test_limits(self):
        rule = ("a", "b")
        self.assertTrue(accepts(("follows", "ab", (rule,) * 200, "a", "b"), (199,)))
        self.assertFalse(accepts(("follows", "ab", (rule,) * 201, "a", "b"), (0,)))
        self.assertTrue(accepts(("rows", "ab - ab b", ("ab",) * 60), (0, 0)))
        self.assertFalse(accepts(("rows", "ab - ab b", ("ab",) * 61), (0, 0)))
        self.assertFalse(accepts(("rows", "ab - ab b", ()), (0, 0)))
        answer = ("a", "b", True)
        self.assertTrue(accepts(("fits", "ab - ab b", (answer,) * 12), ()))
        self.assertFalse(accepts(("fits", "ab - ab b", (answer,) * 13), ()))
        self.assertFalse(accepts(("follows", "abcdefgh", (), "a", ""), ()))
        lines = tuple((at, at) for at in range(64))
        self.assertTrue(accepts(("loss", "ab - ab", ("a", "b")), (lines, (0, 1))))
        self.assertFalse(accepts(("loss", "ab - ab", ("a", "b")), (lines + ((64, 64),), (0, 1))))

    def test_a_thing_in_the_lot_is_not_open(self):
        self.assertFalse(accepts(("open", "ab", (), "a", "a"), ("ab - a ab b", "ab - a ab b")))
        self.assertTrue(accepts(("open", "ab", (), "a", "b"), ("ab ab", "ab - a ab b")))
        self.assertFalse(accepts(("open", "ab", (), "a", "b"), ("ab - a ab b", "ab ab")))

    def test_none(self):
        answers = (("a", "b", True), ("b", "c", True), ("a", "c", False), ("a", "b", False))
        self.assertTrue(accepts(("none", "abc", answers), (2, (0, 1))))
        self.assertTrue(accepts(("none", "abc", answers), (3, (0,))))
        self.assertTrue(accepts(("none", "abc", answers), (3, (0, 0, 1))))
        for paper in ((2, (1, 0)), (2, (0,)), (0, (0, 1)), (2, (3, 1)), (1, (1,)), (2, [0, 1]), (2,), ((2,), (0, 1)), (4, (0,)), (True, (0,))):
            self.assertFalse(accepts(("none", "abc", answers), paper), paper)

    def test_it_is_defined_here(self):
        self.assertEqual(module.accepts.__module__, "closerworks.checker")


if __name__ == "__main__":
    unittest.main()
