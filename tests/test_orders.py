"""[2], [18], [19] The order of closed lots."""

import itertools
import unittest

from closerworks import orders as module
from closerworks.closers import Closer
from closerworks.errors import InvalidLot, NotACloser
from closerworks.orders import (count_chains, count_down, diamond, height, is_distributive, is_half_modular,
                                is_modular, pentagon, right_below, roots, span)
from closerworks.telling import by_family, by_rules
from tests.helpers import (Case, as_lot, around_in, closers_of, every_lot, example_closers, sample_closers,
                           some_closers, wrong_closers, wrong_lots)

SEVEN = "acegikz"
FLAT, LINE, FOUR = example_closers()
PENTAGON = Closer("abc", ("", "a", "ab", "abc", "c"))
DIAMOND = FLAT
ALL = by_rules("abcdefg", ())


def named_samples():
    """Closers of orders of all kinds, some of seven things among them."""
    found = [PENTAGON, DIAMOND, FOUR, LINE, ALL, Closer(SEVEN, (SEVEN,)), Closer(SEVEN, ("", SEVEN))]
    found += [Closer(SEVEN, tuple(sorted(SEVEN[:at] for at in range(8))))]
    found += [by_rules("abcd", (("a", "b"), ("c", "d"))), by_family("abcdefg", tuple("abcdefg"))]
    # The lines and points of the plane of seven points: modular, and far from distributive.
    found += [by_family("abcdefg", ("abc", "ade", "afg", "bdf", "beg", "cdg", "cef"))]
    # All lots of up to two things: half-modular, and not modular.
    found += [Closer("abcd", tuple(lot for lot in every_lot("abcd") if len(lot) != 3))]
    return found


def few_closed():
    """Closers with up to forty closed lots, so that all triples of them can be looked at."""
    found = named_samples() + closers_of("abc") + sample_closers() + some_closers("bdfh", 40, 57)
    return [closer for closer in found + some_closers(SEVEN, 10, 58) if len(closer) <= 40]


def all_samples():
    return named_samples() + closers_of("abc") + sample_closers() + some_closers("bdfh", 20, 57)


def below_told(closer):
    """The pairs of closed lots with none between them."""
    closed = [set(lot) for lot in closer.closed]
    return tuple((as_lot(one), as_lot(other)) for one in closed for other in closed
                 if one < other and not any(one < third < other for third in closed))


class Told:
    """The order of a closer, made over sets by the words of the document."""

    def __init__(self, closer):
        self.closed = closer.closed
        self.meets = {(x, y): "".join(a for a in x if a in y) for x in self.closed for y in self.closed}
        self.spans = {(x, y): around_in(closer.things, self.closed, as_lot(x + y))
                      for x in self.closed for y in self.closed}

    def is_modular(self):
        return all(self.meets[self.spans[x, y], z] == self.spans[x, self.meets[y, z]]
                   for x in self.closed for z in self.closed if self.meets[x, z] == x for y in self.closed)

    def is_distributive(self):
        return all(self.meets[x, self.spans[y, z]] == self.spans[self.meets[x, y], self.meets[x, z]]
                   for x in self.closed for y in self.closed for z in self.closed)

    def is_half_modular(self, below):
        return all((y, self.spans[x, y]) in below for x in self.closed for y in self.closed
                   if (self.meets[x, y], x) in below)

    def is_pentagon(self, triple):
        x, y, z = triple
        alike = self.meets[x, y] == self.meets[z, y] and self.spans[x, y] == self.spans[z, y]
        return alike and set(x) < set(z)

    def is_diamond(self, triple):
        pairs = list(itertools.combinations(triple, 2))
        alike = len({self.meets[pair] for pair in pairs}) == len({self.spans[pair] for pair in pairs}) == 1
        return alike and triple[0] < triple[1] < triple[2]

    def roots(self, least):
        return tuple(lot for lot in self.closed if lot != least
                     and not any(self.spans[x, y] == lot for x in self.closed for y in self.closed if lot not in (x, y)))


class Examples(unittest.TestCase):

    def test_examples(self):
        flat, line, four = FLAT, LINE, FOUR
        self.assertEqual(
            [count_chains(flat), count_chains(line), height(four, "ab"), span(four, "a", "d"), span(flat, "a", "b"), roots(flat), count_down(flat), roots(four), count_down(line)],
            [3, 4, 4, 'ad', 'abc', ('a', 'b', 'c'), 8, ('a', 'b', 'cd', 'd'), 8])
        self.assertEqual(
            [is_modular(flat), is_distributive(flat), is_half_modular(flat), diamond(flat), pentagon(flat), is_modular(line), is_half_modular(line), pentagon(line) in (("a", "c", "ab"), ("c", "a", "bc")), right_below(flat)[:3]],
            [True, False, True, ('a', 'b', 'c'), None, False, False, True, (('', 'a'), ('', 'b'), ('', 'c'))])


class Chains(Case):

    def test_right_below(self):
        for closer in all_samples():
            before = str(closer)
            self.assertEqual(right_below(closer), below_told(closer), before)
            self.assertIs(type(right_below(closer)), tuple)
            self.assertEqual(str(closer), before)

    def test_chains(self):
        for closer in few_closed():
            above = {lot: [pair[1] for pair in below_told(closer) if pair[0] == lot] for lot in closer.closed}
            chains = [(closer.around(""),)]
            done = 0
            while chains:
                done += sum(chain[-1] == closer.things for chain in chains)
                chains = [chain + (lot,) for chain in chains for lot in above[chain[-1]]]
            self.assertEqual(count_chains(closer), done, str(closer))

    def test_height(self):
        for closer in all_samples():
            before = str(closer)
            steps = {}
            for lot in sorted(closer.closed, key=len):
                steps[lot] = max([steps[other] + 1 for other in steps if set(other) < set(lot)], default=0)
            for lot in every_lot(closer.things):
                self.assertEqual(height(closer, lot), steps[closer.around(lot)], (before, lot))
            self.assertEqual(str(closer), before)

    def test_edges(self):
        for things in ("a", "abc", SEVEN):
            whole = Closer(things, (things,))
            self.assertEqual([right_below(whole), count_chains(whole), height(whole, ""), height(whole, things)],
                             [(), 1, 0, 0])
            two = Closer(things, ("", things))
            self.assertEqual([right_below(two), count_chains(two), height(two, ""), height(two, things[0])],
                             [(("", things),), 1, 0, 1])
        self.assertEqual([count_chains(ALL), height(ALL, "abcdefg"), height(ALL, "bd"), len(right_below(ALL))],
                         [5040, 7, 2, 448])
        self.assertEqual([count_chains(PENTAGON), height(PENTAGON, "abc"), height(PENTAGON, "ac"), height(PENTAGON, "c")],
                         [2, 3, 3, 1])


class SpansAndRoots(Case):

    def test_spans(self):
        for closer in few_closed():
            told = Told(closer)
            for one, other in itertools.product(closer.closed, repeat=2):
                self.assertEqual(span(closer, one, other), told.spans[one, other])

    def test_roots(self):
        for closer in few_closed():
            before = str(closer)
            found = roots(closer)
            self.assertEqual(found, Told(closer).roots(closer.around("")), before)
            self.assertIs(type(found), tuple)
            sets = 0
            for size in range(len(found) + 1):
                for some in itertools.combinations(found, size):
                    sets += all(other in some for root in some for other in found if set(other) <= set(root))
            self.assertEqual(count_down(closer), sets, before)
            self.assertEqual(str(closer), before)

    def test_each_closed_lot_is_the_least_one_around_its_roots(self):
        for closer in all_samples():
            for lot in closer.closed:
                held = "".join(root for root in roots(closer) if set(root) <= set(lot))
                self.assertEqual(closer.around(as_lot(held)), lot)

    def test_edges(self):
        for things in ("a", "abc", SEVEN):
            self.assertEqual([roots(Closer(things, (things,))), count_down(Closer(things, (things,)))], [(), 1])
            self.assertEqual([roots(Closer(things, ("", things))), count_down(Closer(things, ("", things)))], [(things,), 2])
        self.assertEqual([roots(ALL), count_down(ALL)], [tuple("abcdefg"), 128])
        self.assertEqual([roots(PENTAGON), count_down(PENTAGON)], [("a", "ab", "c"), 6])

    def test_lots_that_are_not_closed(self):
        for one, other, wrong in (("ab", "a", "ab"), ("a", "ab", "ab"), ("c", "bc", "bc"), ("bc", "ab", "bc")):
            self.check_raises(InvalidLot, wrong, span, DIAMOND if wrong == "ab" else PENTAGON, one, other)
        for lot in every_lot("abc"):
            if lot not in DIAMOND.closed:
                for other in ("a", "", "ab", None, "z"):
                    self.check_raises(InvalidLot, lot, span, DIAMOND, lot, other)
                self.check_raises(InvalidLot, lot, span, DIAMOND, "a", lot)
        self.check_raises(InvalidLot, "", span, Closer("ab", ("a", "ab")), "", "a")
        self.check_raises(InvalidLot, "", span, Closer("ab", ("a", "ab")), "a", other="")


class Kinds(Case):

    def test_the_kinds_of_orders(self):
        seen = []
        for closer in few_closed():
            before = str(closer)
            told = Told(closer)
            below = set(below_told(closer))
            self.assertIs(is_modular(closer), told.is_modular(), before)
            self.assertIs(is_distributive(closer), told.is_distributive(), before)
            self.assertIs(is_half_modular(closer), told.is_half_modular(below), before)
            self.assertIs(is_distributive(closer), count_down(closer) == len(closer))
            seen.append((is_modular(closer), is_distributive(closer), is_half_modular(closer)))
            self.assertEqual(str(closer), before)
        self.assertLessEqual({(True, True, True), (True, False, True), (False, False, True), (False, False, False)},
                             set(seen))

    def test_what_bars_them(self):
        for closer in few_closed():
            before = str(closer)
            told = Told(closer)
            five, three = pentagon(closer), diamond(closer)
            self.assertIs(five is None, told.is_modular())
            self.assertIs(five is None and three is None, told.is_distributive())
            if five is not None:
                self.assertTrue(type(five) is tuple and len(five) == 3 and told.is_pentagon(five), (before, five))
            if three is not None:
                self.assertTrue(type(three) is tuple and len(three) == 3 and told.is_diamond(three), (before, three))
            self.assertIs(three is None, not any(told.is_diamond(some) for some in itertools.combinations(closer.closed, 3)))
            self.assertEqual(str(closer), before)

    def test_five_closed_lots(self):
        self.assertEqual([pentagon(PENTAGON), diamond(PENTAGON)], [("a", "c", "ab"), None])
        self.assertEqual([is_modular(PENTAGON), is_distributive(PENTAGON), is_half_modular(PENTAGON)], [False] * 3)
        self.assertEqual([pentagon(DIAMOND), diamond(DIAMOND)], [None, ("a", "b", "c")])
        self.assertEqual([is_modular(DIAMOND), is_distributive(DIAMOND), is_half_modular(DIAMOND)], [True, False, True])
        # The same five lots, with the greatest one alone at the side of the first two.
        other = Closer("abc", ("", "a", "abc", "bc", "c"))
        self.assertEqual([is_modular(other), pentagon(other)], [False, ("c", "a", "bc")])

    def test_edges(self):
        for closer in (Closer("a", ("a",)), Closer(SEVEN, (SEVEN,)), Closer("a", ("", "a")), ALL, by_rules("abc", ())):
            self.assertEqual([is_modular(closer), is_distributive(closer), is_half_modular(closer)], [True] * 3)
            self.assertEqual([pentagon(closer), diamond(closer)], [None, None])
        plane = by_family("abcdefg", ("abc", "ade", "afg", "bdf", "beg", "cdg", "cef"))
        self.assertEqual([len(plane), is_modular(plane), is_distributive(plane)], [16, True, False])
        pairs = Closer("abcd", tuple(lot for lot in every_lot("abcd") if len(lot) != 3))
        self.assertEqual([is_modular(pairs), is_half_modular(pairs)], [False, True])


class Calls(Case):

    def test_calls_and_wrong_inputs(self):
        for action in (right_below, count_chains, roots, count_down, is_modular, is_distributive, is_half_modular,
                       pentagon, diamond):
            for closer in (FOUR, DIAMOND, PENTAGON, Closer("a", ("a",)), Closer(SEVEN, ("", SEVEN))):
                self.check_call(action, ("closer",), (closer,), [(NotACloser, wrong_closers())])

    def test_calls_and_wrong_inputs_of_height(self):
        for args in ((FOUR, "ab"), (Closer("a", ("a",)), ""), (Closer(SEVEN, ("", SEVEN)), "ac")):
            kinds = [(NotACloser, wrong_closers()), (InvalidLot, wrong_lots(args[0].things))]
            self.check_call(height, ("closer", "lot"), args, kinds)

    def test_calls_and_wrong_inputs_of_span(self):
        for args in ((FOUR, "a", "d"), (Closer("a", ("a",)), "a", "a"), (Closer(SEVEN, ("", SEVEN)), "", SEVEN)):
            wrongs = wrong_lots(args[0].things)
            wrongs += [(lot, lot) for lot in every_lot(args[0].things) if lot not in args[0].closed]
            kinds = [(NotACloser, wrong_closers()), (InvalidLot, wrongs), (InvalidLot, wrongs)]
            self.check_call(span, ("closer", "one", "other"), args, kinds)


class Module(unittest.TestCase):

    def test_all_is_defined_here(self):
        for name in ("right_below", "count_chains", "height", "span", "roots", "count_down", "is_modular",
                     "is_distributive", "is_half_modular", "pentagon", "diamond"):
            self.assertEqual(getattr(module, name).__module__, "closerworks.orders")


if __name__ == "__main__":
    unittest.main()
